import PyProof.Rows.All
import Wide.All
import OpenK.AllK
import Wide.FinOn
import Lean
import PyProof.Rows.SetFrom
import PyProof.WalksMore
import PyProof.SetRoads
import PyProof.ListRange
import PyProof.Rows.SortWalk
import PyProof.CollectWalk
import PyProof.ZipIter
import PyProof.EnumStmt
import PyProof.EqAt
import PyProof.EqKinds
import PyProof.TupleCall
import PyProof.CompFree
import PyProof.Cells
import PyProof.ConsumeWalk
import PyProof.TupleOfSeq
import PyProof.NeKinds
import PyProof.IsiPairs
import PyProof.IsiHeapPairs
import PyProof.IsInstanceT
import PyProof.IsiTupleOf
import KE.KSortTup
import KE.KTryMore
import PyProof.ExcBaseAll.ValueError
import KE.RegMulBits
import Wide.ObjOpen
import Wide.RegSB
import PyProof.ExcAttrAll.ValueError
import PyProof.ExcArgsOwn
import PyProof.SumWalk
import PyProof.ReprRoads
import PyProof.Rows.DictMade
import PyProof.Rows.DictMethods
import KE.KRevIter
import PyProof.ListMulRoad
import PyProof.FactsAll.tuple_2
import PyProof.DictRoadsH
import PyProof.DictCompW
import PyProof.TupleKey
import PyProof.IsRules
import PySem.Challenge.RW_jointrees_k23_weights_and_ways
set_option Elab.async false
set_option linter.all false
set_option maxRecDepth 100000
set_option maxHeartbeats 4000000
namespace Jt
open PySem
noncomputable def Up(xs:Array Nat):Prop:=xs.toList.Pairwise (. < .)
theorem Up.lt(u:Up xs){i k a b:Nat}(h:i<k)(o:xs[i]?=some a)(C:xs[k]?=some b):a<b:=by rw[<- Array.getElem?_toList]at o C;obtain⟨I,J⟩:=List.getElem?_eq_some_iff.mp o;obtain⟨U,e2⟩:=List.getElem?_eq_some_iff.mp C;rw[<- J,<- e2];exact List.pairwise_iff_getElem.mp u i k I U h
theorem CN(u:Up xs): ∀(fuel lo o:Nat),o<=xs.size->lo<=o->o-lo<=fuel->
  (∀i v,i<lo->xs[i]?=some v->v<j)->(∀i v,o<=i->xs[i]?=some v->j<=v)->
  SetTable.below.go xs j fuel lo o<=xs.size/\(∀i v,i<SetTable.below.go xs j fuel lo o->xs[i]?=some v->v<j)/\ ∀i v,SetTable.below.go xs j fuel lo o<=i->xs[i]?=some v->j<=v:=by intro fuel;induction fuel with
 |zero=>
  intro lo o I h2 h3 J U;have:lo=o:=by omega
  subst this;exact⟨I,J,U⟩
 |succ fuel ih=>
  intro lo o I h2 h3 J U;unfold SetTable.below.go;by_cases hl:lo<o
  .rw[if_pos hl];have hm:(lo+o)/2<xs.size:=by omega
   have eg:xs.getD ((lo+o)/2) j=xs[(lo+o)/2]:=by simp[Array.getD,hm]
   have em:xs[(lo+o)/2]?=some xs[(lo+o)/2]:=by simp[hm]
   by_cases hc:xs.getD ((lo+o)/2) j<j
   .rw[if_pos hc];refine ih _ _ I (by omega) (by omega) (λ i v C e=>?_) U;rcases Nat.lt_or_eq_of_le (Nat.le_of_lt_succ C)with q|q
    .have:=u.lt q e em;omega
    .subst q;rw[em]at e;cases e;omega
   .rw[if_neg hc];refine ih _ _ (by omega) (by omega) (by omega) J λ i v C e=>?_;rcases Nat.lt_or_eq_of_le C with q|q
    .have:=u.lt q em e;omega
    .subst q;rw[em]at e;cases e;omega
  .rw[if_neg hl];have:lo=o:=by omega
   subst this;exact⟨I,J,U⟩
theorem i8(u:Up xs)(j:Nat):SetTable.below xs j<=xs.size/\(∀i v,i<SetTable.below xs j->xs[i]?=some v->v<j)/\ ∀i v,SetTable.below xs j<=i->xs[i]?=some v->j<=v:=by refine CN u _ _ _ (Nat.le_refl _) (Nat.zero_le _) (by omega) (λ i v h=>absurd h (Nat.not_lt_zero _)) λ i v h e=>?_;grind
theorem y6(u:Up xs){j:Nat}(h:xs[SetTable.below xs j]?≠some j):j∉xs.toList:= λ hm=>by
 obtain⟨i,C,e⟩:=List.getElem_of_mem hm;have o:xs[i]?=some j:=by rw[<- Array.getElem?_toList,List.getElem?_eq_getElem C,e]
 obtain⟨_,b1,J⟩:=i8 u j;rcases Nat.lt_trichotomy i (SetTable.below xs j)with q|q|q
 .exact absurd (b1 i j q o) (Nat.lt_irrefl _)
 .rw[<- q]at h;exact h o
 .have U:SetTable.below xs j<xs.size:=Nat.lt_of_lt_of_le q (by simpa using Nat.le_of_lt C);have I:xs[SetTable.below xs j]?=some xs[SetTable.below xs j]:=by simp
  have:=u.lt q I o;grind
theorem zK(u:Up xs){j:Nat}(h:j∉xs.toList):Up (SetTable.insertAt xs (SetTable.below xs j) j):=by
 unfold Up;rw[SetTable.toList_insertAt];obtain⟨b0,b1,U⟩:=i8 u j;have J:xs.toList.Pairwise (. < .):=u;have hd: ∀y∈xs.toList.drop (SetTable.below xs j),j<y:= λ y C=>by
  obtain⟨i,I,e⟩:=List.getElem_of_mem C;rw[List.getElem_drop]at e;have hm:y∈xs.toList:=List.mem_of_mem_drop C;have:=U (SetTable.below xs j+i) y (by omega) (by rw[<- Array.getElem?_toList,List.getElem?_eq_some_iff];exact⟨by simp at I;simp;omega,e⟩);rcases Nat.lt_or_eq_of_le this with q|q
  .exact q
  .subst q;exact absurd hm h
 have ht: ∀y∈xs.toList.take (SetTable.below xs j),y<j:= λ y C=>by
  obtain⟨i,I,e⟩:=List.getElem_of_mem C;rw[List.getElem_take]at e;have o:i<SetTable.below xs j/\i<xs.toList.length:=by rw[List.length_take]at I;omega
  exact b1 i y o.1 (by rw[<- Array.getElem?_toList,List.getElem?_eq_some_iff];exact⟨o.2,e⟩)
 rw[List.pairwise_append];refine⟨J.sublist (List.take_sublist _ _),?_,λ a ha b hb=>?_⟩;. rw[List.pairwise_cons];exact⟨hd,J.sublist (List.drop_sublist _ _)⟩
 grind
noncomputable def Tb(t:SetTable):Prop:=t.plain=true->Up t.place
theorem EZ {mask finger moves:Nat} {led plain:Bool} {hs:Array Int} {t:SetTable} {o:Array Nat} (e:SetTable.laid mask finger moves led plain hs=some (t,o)):Up t.place∧t.led=led:= by
 unfold SetTable.laid at e
 cases q:SetTable.layClean mask hs with
 | none=>rw [q] at e;cases e
 | some owner=>
  rw [q] at e
  injection e with e
  injection e with e1 e2
  subst e1
  refine ⟨?_,rfl⟩
  show (List.map _ _).Pairwise _
  rw [List.pairwise_map]
  rw [List.pairwise_filterMap]
  refine List.Pairwise.imp (fun {a b} hab x hx y hy=>?_) List.pairwise_lt_range
  cases q1:owner.getD a none with
  | none=>rw [q1] at hx;cases hx
  | some _=>
   cases q2:owner.getD b none with
   | none=>rw [q2] at hy;cases hy
   | some _=>rw [q1] at hx;rw [q2] at hy;cases hx;cases hy;exact hab
noncomputable def eo(p:Int×Tok):Int×Value:=(hashInt p.1,.int p.1 p.2)
noncomputable def ed(e:Int×Value):Int×Tok:=match e.2 with
 | .int i t=>(i,t)
 |_=>(0,0)
section
variable {prog:Program} {w:World} {A:Around} {E:Value->Shared->Prop} {s:Shared}
theorem tW (v:Value) {Q:Value->Shared->Prop} (h:Q (.ref s.heap.objs.size) { s with heap:=s.heap.push { cls:=.type "set",dict:=none,data:=.set #[] 0 (.fresh 0 0 (!w.params.followText "set-order")) } }) :
  codeAny (model prog w) A (.call (.builtin "set.__new__") ⟨[.type "set",v],[]⟩) (wants Q E) s:= by
 refine codeAny_of_tree ?_
 show wpAny (model prog w) A.in1 (do checkBuiltinCall "set.__new__" ⟨[.type "set",v],[]⟩;again (.builtin "set.__new__" ⟨[.type "set",v],[]⟩)) _ _ s
 refine wpAny_bind (wpAny_of_eq (F.newCall_set_1 v) (wpAny_pure ⟨plainId_quiet F.plain_set_new _,codeAny_builtin F.entry_set_new ?_⟩))
 rw [Around.under_plainId F.plain_set_new _]
 have hsub:=sub_set_self
 obtain ⟨hp,g,d,tk,os⟩:=s
 unfold Builtin.«set.__new__» Builtin.Frozenset.newClass
 dsimp only
 wp_walk
 refine wpAny_askSetting (wpAny_pure ?_)
 dsimp only
 simp only [newObj]
 exact wpAny_bind (wpAny_alloc (wpAny_pure (wpAny_pure h)))
set_option maxHeartbeats 8000000 in
theorem uE:isSubtype (.type "tuple") (.type "set")=pure false:=by rw[isSubtype_type];rfl
theorem uG:isSubtype (.type "tuple") (.type "frozenset")=pure false:=by rw[isSubtype_type];rfl
set_option maxHeartbeats 8000000 in
end
theorem CF:Manifest.owners.lookup (String.ofList ['r','o','t','a','r','e','t','i','_','t','e','s'].reverse)=some Manifest.sig_set_iterator:=by kernel_rfl
theorem fZ:Slot "set_iterator" "__next__" "set_iterator.__next__":= .of (owner:="set_iterator") (n:="__next__") (by rfl) (by decide+kernel) (by decide+kernel) (by decide+kernel) (by first|exact .inl (by decide+kernel)|exact .inr (by decide+kernel)) (by kernel_rfl)
theorem we:entryFor table "set_iterator.__next__"=some Builtin.«set_iterator.__next__»:=entryFor_of_tree (by rfl)
theorem vX(v:Value):argsOk "set_iterator.__next__" ⟨[v],[]⟩:=by unfold argsOk;rw[signature?_of (id:="set_iterator.__next__") (n:=['_','_','t','x','e','n','_','_']) (o:=['r','o','t','a','r','e','t','i','_','t','e','s']) (by kernel_rfl) CF];rfl
theorem mj:Slot "set_iterator" "__iter__" "set_iterator.__iter__":= .of (owner:="set_iterator") (n:="__iter__") (by rfl) (by decide+kernel) (by decide+kernel) (by decide+kernel) (by first|exact .inl (by decide+kernel)|exact .inr (by decide+kernel)) (by kernel_rfl)
theorem vq:entryFor table "set_iterator.__iter__"=some Builtin.«dict_keyiterator.__iter__»:=entryFor_alias (id':="dict_keyiterator.__iter__") (by kernel_rfl) (by first|rfl|decide+kernel|(unfold String.splitOn;simp+decide [String.splitOnAux])) (by decide+kernel) (by kernel_rfl)
theorem wu(v:Value):argsOk "set_iterator.__iter__" ⟨[v],[]⟩:=by unfold argsOk;rw[signature?_of (id:="set_iterator.__iter__") (n:=['_','_','r','e','t','i','_','_']) (o:=['r','o','t','a','r','e','t','i','_','t','e','s']) (by kernel_rfl) CF];rfl
theorem uf:entryFor table "set.__iter__"=some Builtin.«frozenset.__iter__»:=entryFor_alias (id':="frozenset.__iter__") (by kernel_rfl) (by first|rfl|decide+kernel|(unfold String.splitOn;simp+decide [String.splitOnAux])) (by decide+kernel) (by kernel_rfl)
noncomputable abbrev vh(h:Heap)(I S:Addr)(f0:Value)(i n o:Nat):Prop:=h.get? I=some { cls:= .type "set_iterator",dict:=none,data:= .fields #[f0,.int i 0,.ref S,.int n 0,.int o 0],slots:=#[] }
section
variable {prog:Program} {w:World} {A:Around} {E:Value->Shared->Prop} {s:Shared}
theorem nI(C:A.handled=none)(J: ∀h' e,(∀b o,s.heap.get? b=some o->h'.get? b=some o)->(∃o,h'.get? e=some o/\o.cls= .type "StopIteration")->E (.ref e) { s with heap:=h' }):
  wpAny (model prog w) A (newExc (.type "StopIteration") [] >>=λ x=>(raiseNew x:Sem α)) Q E s:=by refine wpAny_bind ?_;refine wpAny_bind (m:=firstArgMember _ _) (wpAny_of_eq (a:=Value.none) (by first|rfl|(simp)) ?_);refine wpAny_newObj_type ?_ (by size_fits);refine wpAny_bind (wpAny_handled ?_);rw[C];refine wpAny_bind (wpAny_pure (wpAny_throw ?_));exact J _ _ (λ b o e=>Heap.get?_push_of_some _ (Heap.get?_push_of_some _ e)) ⟨_,Heap.get?_push_size _ rfl,rfl⟩
end
section
variable {w:World} {A:Around} {E:Value->Shared->Prop} {s:Shared} {l:List (Int × Tok)} {i:Nat}
theorem jJ{α:Type}: ∀{l:List α}{i:Nat}(h:i<l.length),(l[i]::l.eraseIdx i).Perm l
 |[],_,h=>absurd h (Nat.not_lt_zero _)
 |x::l,0,_=>List.Perm.refl _
 |x::l,i+1,h=>(List.Perm.swap _ _ _).trans ((jJ (l:=l) (i:=i) (by grind)).cons x)
theorem FI(next:Nat->Nat): ∀(fuel k:Nat)(left:List α)(out:Array α),fuel=left.length->(pickOrder.go next fuel k left out).toList.Perm (out.toList++left):=by intro fuel;induction fuel with
 |zero=>intro k left out h;have:left=[]:=List.eq_nil_of_length_eq_zero h.symm;subst this;unfold pickOrder.go;simp
 |succ fuel C=>intro k left out h;unfold pickOrder.go;have o:next k%left.length<left.length:=Nat.mod_lt _ (by omega);rw[List.getElem?_eq_getElem o];refine(C _ _ _ (by rw[List.length_eraseIdx];split <;> omega)).trans ?_;rw[Array.toList_push,List.append_assoc];refine List.Perm.append_left _ ?_;exact(jJ o)
theorem zg(next:Nat->Nat)(xs:Array α):(pickOrder next xs).toList.Perm xs.toList:=by unfold pickOrder;have:=FI next xs.size 0 xs.toList #[] (by simp);grind
theorem wJ{Q:List Nat->Shared->Prop}: ∀(n:Nat)(xs:List Nat)(s:Shared),n=xs.length->(∀ys d,ys.Perm xs->Q ys { s with drawn:=d })->wpAny M A (drawOrder n xs) Q E s:=by intro n;induction n generalizing Q with
 |zero=>intro xs s h o;have:xs=[]:=List.eq_nil_of_length_eq_zero h.symm;subst this;exact wpAny_pure (o [] s.drawn (List.Perm.refl _))
 |succ n J=>intro xs s h o;cases xs with
  |nil=>cases h
  |cons x xs=>refine wpAny_bind (λ Γ p U=>?_);refine⟨by simp,?_⟩;rw[Sem.wp_pure];have C:M.w.draws Source.order (s.drawn.get Source.order)%(x::xs).length<(x::xs).length:=Nat.mod_lt _ (by simp);dsimp only;rw[List.getElem?_eq_getElem C];refine wpAny_bind (J _ _ (by rw[List.length_eraseIdx];split <;> (omega)) λ ys d py=>wpAny_pure ?_);exact o _ d ((py.cons _).trans (jJ C))
end
section
variable {prog:Program} {w:World} {A:Around} {E:Value->Shared->Prop} {s:Shared} {i:Nat}
theorem lR(h:Q (w.params.followText "set-order") s):wpAny (model prog w) A setsByText Q E s:=wpAny_bind (wpAny_askSetting (wpAny_pure h))
theorem vZ(u:Up xs){i j:Nat}(h:xs[i]?=some j):SetTable.below xs (j+1)=i+1:=by
 obtain⟨J,b1,C⟩:=i8 u (j+1);have U:i<SetTable.below xs (j+1):=by
  rcases Nat.lt_or_ge i (SetTable.below xs (j+1))with q|q
  .exact q
  .have:=C i j q h;omega
 rcases Nat.lt_or_ge (i+1) (SetTable.below xs (j+1))with q|q
 .have hs:i+1<xs.size:=by omega
  have o:xs[i+1]?=some xs[i+1]:=by simp
  have a1:=b1 (i+1) _ q o;have a2:=u.lt (Nat.lt_succ_self i) h o;omega
 omega
theorem wU(u:Up xs):SetTable.below xs 0=0:=by
 obtain⟨o,b1,C⟩:=i8 u 0;rcases Nat.eq_zero_or_pos (SetTable.below xs 0)with q|q
 .exact q
 .have J:xs[0]?=some xs[0]:=by simp
  grind
end
section
variable {prog:Program} {w:World} {A:Around} {E:Value->Shared->Prop} {s:Shared}
theorem tU{ns:List Int}{Q:Value->Shared->Prop}
  (hc: ∀(U:Around)(Q':List Value->Shared->Prop)(E':Value->Shared->Prop),(U.handled=A.handled)->(∀(vs:List Value)(ms:List Int)(h':Heap)(tk:Nat)(d:Drawn),PyProof.Rows.IntsAre vs ms->ms.Perm ns->(∀b o,s.heap.get? b=some o->h'.get? b=some o)->Q' vs { s with heap:=h',toks:=tk,drawn:=d })->
   wpAny (model prog w) U (collect v) Q' E' s)(aa:ns.length<64)
  (h: ∀(C h':Heap)(tk:Nat)(d:Drawn)(out:List Value)(ms:List Int)(e:Nat),(∀b o,s.heap.get? b=some o->C.get? b=some o)->(∀b o,C.get? b=some o->h'.get? b=some o)->h'.get? C.objs.size=some { cls:= .type "list",data:= .seq out.toArray e }->
   PyProof.Rows.IntsAre out ms->ms.Perm ns->ms.Pairwise (. <= .)->Q (.ref C.objs.size) { s with heap:=h',toks:=tk,drawn:=d }):
  wpAny (model prog w) A (call (.builtin "sorted") [v]) Q E s:=by
 refine Calls.call_function_entry PyProof.Rows.kind_sorted PyProof.Rows.plain_sorted PyProof.Rows.entry_sorted (PyProof.Rows.args_sorted1 _) ?_;refine wpAny_bind (m:=checkCount "sorted" 1 1 _) (wpAny_pure ?_);refine wpAny_bind (hc _ _ _ (by simp) λ vs ms C tk d hi pm kp=>?_);have hl:vs.length=ns.length:=by rw[hi.length,pm.length_eq]
 refine wpAny_bind (wpAny_newList ?_ (by rw[sizeLine_eq];omega));have g1:(C.push (PyProof.Rows.seqObj "list" vs.toArray 0)).get? C.objs.size=some (PyProof.Rows.seqObj "list" vs.toArray 0):=Heap.get?_push_size _ rfl;refine wpAny_bind (wpAny_holding (wpAny_call_entry PyProof.Rows.slot_list_sort ⟨_,g1,rfl⟩ PyProof.Rows.entry_list_sort (PyProof.Rows.list_sort_tree (s:={ s with heap:=C.push (PyProof.Rows.seqObj "list" vs.toArray 0),toks:=tk,drawn:=d }) g1 hi (by omega) λ out J a1 a2 a3=>⟨_,rfl,?_⟩) (PyProof.Rows.args_list_sort _)));obtain⟨e,he⟩:=PyProof.Rows.sortedHeap_at (out:=out) g1;refine wpAny_pure ⟨_,rfl,h C _ tk d out.toList J e kp (λ b o eb=>?_) (by omega) a1 (a2.trans pm) a3⟩;have hb:=Heap.lt_size eb;rw[PyProof.Rows.sortedHeap_old (Nat.ne_of_lt hb) (by rw[Heap.size_push];grind)];exact Heap.get?_push_of_some _ eb
end
noncomputable def om(b:Bool)(h:Heap)(q:Addr)(xs:Array Value):Prop:=match b with
 |true=>h.IsTuple q xs
 |false=>h.IsList q xs
noncomputable def oH(b:Bool)(h:Heap)(it q:Addr)(k:Nat):Prop:=match b with
 |true=>h.IsTupleIter it q k
 |false=>h.IsListIter it q k
noncomputable def fX(b:Bool)(q:Addr):Obj:={ cls:= .type (if b then"tuple_iterator" else"list_iterator"),data:= .fields #[.ref q,.int 0 0] }
section
variable {prog:Program} {w:World} {A:Around} {E:Value->Shared->Prop} {s:Shared} {b:Bool} {it q:Addr} {k:Nat} {xs:Array Value}
theorem om.at(x:om b h q xs)(e: ∀o,h.get? q=some o->h'.get? q=some o):om b h' q xs:=by cases b with
 |true=>obtain⟨o,C,r⟩:=x;exact⟨o,e o C,r⟩
 |false=>obtain⟨o,C,r⟩:=x;exact⟨o,e o C,r⟩
theorem oH.at(x:oH b h it q k)(e: ∀o,h.get? it=some o->h'.get? it=some o):oH b h' it q k:=by cases b with
 |true=>obtain⟨o,C,r⟩:=x;exact⟨o,e o C,r⟩
 |false=>obtain⟨o,C,r⟩:=x;exact⟨o,e o C,r⟩
theorem oH.lt(x:oH b h it q k):it<h.objs.size:=by cases b with
 |true=>obtain⟨o,C,r⟩:=x;exact Heap.lt_size C
 |false=>obtain⟨o,C,r⟩:=x;exact Heap.lt_size C
theorem om.lt(x:om b h q xs):q<h.objs.size:=by cases b with
 |true=>obtain⟨o,C,r⟩:=x;exact Heap.lt_size C
 |false=>obtain⟨o,C,r⟩:=x;exact Heap.lt_size C
theorem j9(x:om b s.heap q xs)(h:Q (.ref s.heap.objs.size) { s with heap:=s.heap.push (fX b q) }):wpAny (model prog w) A (pyIter (.ref q)) Q E s:=by cases b with
 |true=>exact wpAny_pyIter_tuple x h
 |false=>exact wpAny_pyIter_list x h
theorem oH.new{h:Heap}:oH b (h.push (fX b q)) h.objs.size q 0:=by cases b with
 |true=>exact⟨_,Heap.get?_push_size _ rfl,rfl,rfl⟩
 |false=>exact⟨_,Heap.get?_push_size _ rfl,rfl,rfl⟩
theorem lZ(U:oH b s.heap it q k)(hq:om b s.heap q xs)(hx:xs[k]?=some x)(h: ∀h',oH b h' it q (k+1)->Heap.SameBut it s.heap h'->Q x { s with heap:=h' }):
  wpAny (model prog w) A (Builtin.SmallTypes.nextOf (.ref it)) Q E s:=by cases b with
 |false=>exact wpAny_nextOf_list_item U hq hx h
 |true=>obtain⟨o,C,hc,hd⟩:=id U;obtain⟨oq,I,_,n,J⟩:=hq;have hT:s.TypeIs (.ref it) "tuple_iterator":=⟨o,C,hc⟩;refine wpAny_bind (wpAny_callSpecial?_slot (name:=Str.ofString "__next__") hT F.slot_tuple_iterator_next (wpAny_call_entry F.slot_tuple_iterator_next hT F.entry_tuple_iterator_next (?_:wpAny _ _ (field (.ref it) 0 >>= _) _ _ s) (F.args_tuple_iterator_next_1 _)));refine wpAny_bind (wpAny_field C hd (x:= .ref q) rfl (?_:wpAny _ _ (if(Value.ref q==Value.none)=true then _ else _) _ _ s));refine wpAny_bind (wpAny_field C hd (x:= .int k 0) rfl (?_:wpAny _ _ (seqItems? (.ref q) >>= _) _ _ s));refine wpAny_bind (wpAny_seqItems I J ?_);simp[hx];refine wpAny_bind (wpAny_setField C hd (by simp) (wpAny_pure ⟨x,rfl,wpAny_pure (h _ ⟨_,Heap.get?_update_self _ C (Obj.isFreed_of_fields (Obj.data_mapFields hd _)),(Obj.cls_mapFields ..).trans hc,?_⟩ (Heap.SameBut.update ..))⟩));rw[Obj.data_mapFields hd];rfl
theorem wg(hh:A.handled=none)(hi:oH b s.heap it q k)(hq:om b s.heap q xs)(hx:xs[k]?=none)
  (h: ∀h' e,(∀c o,c≠it->s.heap.get? c=some o->h'.get? c=some o)->(∃o,h'.get? e=some o/\o.cls= .type "StopIteration")->E (.ref e) { s with heap:=h' }):
  wpAny (model prog w) A (Builtin.SmallTypes.nextOf (.ref it)) Q E s:=by cases b with
 |false=>exact wpAny_nextOf_list_end hh hi hq hx h
 |true=>obtain⟨o,C,I,hd⟩:=id hi;obtain⟨oq,J,_,n,U⟩:=hq;have hT:s.TypeIs (.ref it) "tuple_iterator":=⟨o,C,I⟩;refine wpAny_bind (wpAny_callSpecial?_slot (name:=Str.ofString "__next__") hT F.slot_tuple_iterator_next (wpAny_call_entry F.slot_tuple_iterator_next hT F.entry_tuple_iterator_next (?_:wpAny _ _ (field (.ref it) 0 >>= _) _ _ s) (F.args_tuple_iterator_next_1 _)));refine wpAny_bind (wpAny_field C hd (x:= .ref q) rfl (?_:wpAny _ _ (if(Value.ref q==Value.none)=true then _ else _) _ _ s));refine wpAny_bind (wpAny_field C hd (x:= .int k 0) rfl (?_:wpAny _ _ (seqItems? (.ref q) >>= _) _ _ s));refine wpAny_bind (wpAny_seqItems J U ?_);simp[hx];refine wpAny_bind (wpAny_rule (wpAny_bind (wpAny_setField C hd (by simp) (?_:wpAny _ _ (newExc (.type "StopIteration") [] >>= _) _ _ _))));refine nI (s:={ s with heap:=s.heap.update it _ }) (by omega) λ h' e kp he=>h h' e (λ c o I e'=>kp c o ?_) he;exact(Heap.get?_update_other _ _ (Ne.symm I)).trans e'
structure L4 (z TI TO i1 i2 l1 l2:Addr):Prop where
 ni:[z,TI,TO,i1,i2].Nodup
 n1:l1 ∉ [z,TO,i1,i2]
 n2:l2 ∉ [z,TO,i1,i2]
noncomputable abbrev OY(b1 o:Bool)(z TI TO C I J U:Addr)(xs ys:Array Value)(k:Nat)(f:Value)(h:Heap):Prop:=
 IsZip h z TI TO f/\IsPair h TI (.ref C) (.ref I)/\(∃a c,IsPair h TO a c)/\oH b1 h C J k/\oH o h I U k/\om b1 h J xs/\om o h U ys
variable {b1 b2:Bool} {z TI TO i1 i2 l1 l2:Addr} {ys:Array Value}
theorem L4.ne(D:L4 z TI TO i1 i2 l1 l2):TI≠z/\TO≠z/\i1≠z/\i2≠z/\TI≠TO/\TI≠i1/\TI≠i2/\TO≠i1/\TO≠i2/\i1≠i2/\l1≠z/\l1≠TO/\l1≠i1/\l1≠i2/\l2≠z/\l2≠TO/\l2≠i1/\l2≠i2:=by obtain⟨h,o,C⟩:=D;grind
theorem m_{j:Nat}{Q:Unit->Shared->Prop}(o:IsPair s.heap T a c)(h: ∀h',h'.get? T=some { cls:= .type "tuple",data:= .seq ((#[a,c]:Array Value).setIfInBounds j v) }->Heap.SameBut T s.heap h'->Q () { s with heap:=h' }):
  wpAny (model prog w) A (updateSeq T (·.setIfInBounds j v)) Q E s:=wpAny_updateSeq_pair o h
theorem B4(D:L4 z TI TO i1 i2 l1 l2)(st:OY b1 b2 z TI TO i1 i2 l1 l2 xs ys k .none s.heap)(hx:xs[k]?=some v1)(hy:ys[k]?=some v2)
  (hQ: ∀h',OY b1 b2 z TI TO i1 i2 l1 l2 xs ys (k+1) (rawInt s.heap.objs.size) h'->IsPair h' s.heap.objs.size v1 v2->(∀c o,c∉[z,TO,i1,i2]->s.heap.get? c=some o->h'.get? c=some o)->Q (some (.ref s.heap.objs.size)) { s with heap:=h' }):
  wpAny (model prog w) A (pyNext (.ref z)) Q E s:=by
 obtain⟨n1,n2,n3,n4,n5,n6,n7,n8,n9,U,m1,m2,m3,m4,m5,m6,m7,m8⟩:=D.ne;obtain⟨hz,aa,⟨a,c,ab⟩,q1,q2,p1,p2⟩:=st;have hT:s.TypeIs (.ref z) "zip":=⟨_,hz,rfl⟩;unfold pyNext;refine wpAny_bind (wpAny_attempt (wpAny_callSpecial?_slot (name:=Str.ofString "__next__") hT F.slot_zip_next (wpAny_call_entry F.slot_zip_next hT F.entry_zip_next (?_:wpAny _ _ (field (.ref z) 2 >>= _) _ _ _) (F.args_zip_next_1 _))));refine wpAny_bind (wpAny_field hz rfl (x:= .bool false) rfl (?_:wpAny _ _ (field (.ref z) 3 >>= _) _ _ _));refine wpAny_bind (wpAny_field hz rfl (x:= .ref TI) rfl (wpAny_bind (wpAny_seqItems aa rfl (?_:wpAny _ _ (Builtin.SmallTypes.ownedTupleIsFree (.ref z) >>= _) _ _ _))));refine wpAny_bind ?_;unfold Builtin.SmallTypes.ownedTupleIsFree;refine wpAny_bind (wpAny_field hz rfl (x:= .none) rfl (wpAny_pure ?_));simp only[if_true];refine wpAny_bind (wpAny_rule (wpAny_bind (wpAny_field hz rfl (x:= .ref TO) rfl ?_)));refine wpAny_bind (wpAny_setField_rec hz (by simp) λ h1 z1 s1=>?_);replace z1:IsZip h1 z TI TO .ellipsis:=z1;refine wpAny_bind ?_;simp only[List.zipIdx_cons,List.zipIdx_nil,List.forIn_cons,List.forIn_nil];refine wpAny_bind (wpAny_bind (wpAny_onRaise (?_:wpAny _ _ (Builtin.SmallTypes.nextOf (.ref i1) >>= _) _ _ _)));refine wpAny_bind (lZ (s:={ s with heap:=h1 }) (q1.at λ o e=>s1.extBut _ _ n3 e) (p1.at λ o e=>s1.extBut _ _ m1 e) hx λ h2 ae s2=>wpAny_pure ?_);have t2:IsPair h2 TO a c:=s2.extBut _ _ n8 (s1.extBut _ _ n2 ab);refine wpAny_bind (wpAny_seqItems (s:={ s with heap:=h2 }) t2 rfl (wpAny_bind (m_ (s:={ s with heap:=h2 }) t2 λ h3 t3 s3=>?_)));replace t3:IsPair h3 TO v1 c:=t3;refine wpAny_bind (wpAny_letGo (wpAny_pure ?_));refine wpAny_bind (wpAny_bind (wpAny_onRaise (?_:wpAny _ _ (Builtin.SmallTypes.nextOf (.ref i2) >>= _) _ _ _)));refine wpAny_bind (lZ (s:={ s with heap:=h3 }) (q2.at λ o e=>s3.extBut _ _ n9.symm (s2.extBut _ _ U.symm (s1.extBut _ _ n4 e))) (p2.at λ o e=>s3.extBut _ _ m6 (s2.extBut _ _ m7 (s1.extBut _ _ m5 e))) hy λ h4 af s4=>wpAny_pure ?_);have t4:IsPair h4 TO v1 c:=s4.extBut _ _ n9 t3;refine wpAny_bind (wpAny_seqItems (s:={ s with heap:=h4 }) t4 rfl (wpAny_bind (m_ (s:={ s with heap:=h4 }) t4 λ C t5 s5=>?_)));replace t5:IsPair C TO v1 v2:=t5;refine wpAny_bind (wpAny_letGo (wpAny_pure (wpAny_pure ?_)));refine wpAny_bind (wpAny_seqItems (s:={ s with heap:=C }) t5 rfl (wpAny_bind (wpAny_newTuple ?_)));have hsz:C.objs.size=s.heap.objs.size:=by rw[s5.1,s4.1,s3.1,s2.1,s1.1]
 have I: ∀c o,c∉[z,TO,i1,i2]->s.heap.get? c=some o->C.get? c=some o:= λ c o hc e=>by simp only[List.mem_cons,List.not_mem_nil,or_false,not_or]at hc;obtain⟨c1,c2,c3,c4⟩:=hc;exact s5.extBut _ _ c2 (s4.extBut _ _ c4 (s3.extBut _ _ c2 (s2.extBut _ _ c3 (s1.extBut _ _ c1 e))))
 have z5:IsZip C z TI TO .ellipsis:=s5.extBut _ _ n2.symm (s4.extBut _ _ n4.symm (s3.extBut _ _ n2.symm (s2.extBut _ _ n3.symm z1)));refine(?_:wpAny _ _ (Builtin.SmallTypes.ownedTupleHandOut (.ref z) (.ref C.objs.size) >>= _) _ _ _);refine wpAny_bind ?_;unfold Builtin.SmallTypes.ownedTupleHandOut;have z6:IsZip (C.push { cls:= .type "tuple",data:= .seq #[v1,v2] }) z TI TO .ellipsis:=Heap.get?_push_of_some _ z5;refine wpAny_bind (wpAny_setField_rec (s:={ s with heap:=C.push { cls:= .type "tuple",data:= .seq #[v1,v2] } }) z6 (by simp) λ h7 z7 s7=>?_);replace z7:IsZip h7 z TI TO (rawInt C.objs.size):=z7;refine wpAny_setField_rec (s:={ s with heap:=h7 }) z7 (by simp) λ h8 z8 s8=>?_;replace z8:IsZip h8 z TI TO (rawInt C.objs.size):=z8;have up:∀ c o,c ≠ z->C.get? c=some o->h8.get? c=some o:=λ c o c1 e=>s8.extBut _ _ c1 (s7.extBut _ _ c1 (Heap.get?_push_of_some _ e));have zl:z ≠ C.objs.size:=Nat.ne_of_lt (Heap.lt_size z5);have J:IsPair h8 C.objs.size v1 v2:=s8.extBut _ _ zl.symm (s7.extBut _ _ zl.symm (Heap.get?_push_size _ rfl));rw [hsz] at z8 J;refine wpAny_pure ⟨_,rfl,(?_:wpAny _ _ (pure (some (Value.ref C.objs.size))) _ _ _)⟩;rw [hsz];refine wpAny_pure (hQ h8 ⟨z8,up _ _ n1 (I TI _ (by simp [n1,n5,n6,n7]) aa),⟨_,_,up _ _ n2 t5⟩,ae.at λ o e=>up _ _ n3 (s5.extBut _ _ n8.symm (s4.extBut _ _ U (s3.extBut _ _ n8.symm e))),af.at λ o e=>up _ _ n4 (s5.extBut _ _ n9.symm e),
  p1.at λ o e=>up _ _ m1 (I l1 _ D.n1 e),p2.at λ o e=>up _ _ m5 (I l2 _ D.n2 e)⟩ J λ c o hc e=>up c o (λ z'=>hc (by rw [z'];simp)) (I c o hc e))
theorem GP(hh:A.handled=none)(D:L4 z TI TO i1 i2 l1 l2)(st:OY b1 b2 z TI TO i1 i2 l1 l2 xs ys k .none s.heap)(hx:xs[k]?=none\/ys[k]?=none)
  (hQ: ∀h',(∀c o,c∉[z,TO,i1,i2]->s.heap.get? c=some o->h'.get? c=some o)->Q none { s with heap:=h' }):wpAny (model prog w) A (pyNext (.ref z)) Q E s:=by
 obtain⟨n1,n2,n3,n4,n5,n6,n7,n8,n9,ab,m1,m2,m3,m4,m5,m6,m7,m8⟩:=D.ne;obtain⟨hz,ae,⟨a,c,af⟩,q1,q2,p1,p2⟩:=st;have hT:s.TypeIs (.ref z) "zip":=⟨_,hz,rfl⟩;have fin: ∀(h:Heap)(e:Addr),IsZip h z TI TO .ellipsis->(∀c o,c∉[z,TO,i1,i2]->s.heap.get? c=some o->h.get? c=some o)->(∃o,h.get? e=some o/\o.cls= .type "StopIteration")->
   wpAny (model prog w) A.in1 (setField (.ref z) 0 .none) (λ _ s'=>wpAny (model prog w) A (do if<- isInstance (Value.ref e) (.type "StopIteration")then pure (none:Option Value)else throw (Value.ref e)) Q E s') (λ _ _=>False) { s with heap:=h }:= λ h e hz kp he=>by
  obtain⟨o,ho,C⟩:=he;refine wpAny_setField_rec (s:={ s with heap:=h }) hz (by simp) λ h' _ sb=>?_;have ag:e≠z:= λ x=>by subst x;rw[hz]at ho;cases ho;simp at C
  refine wpAny_bind (wpAny_isInstance (T:="StopIteration") (b:=true) ⟨o,sb.extBut _ _ ag ho,C⟩ isSubtype_stop (wpAny_pure (hQ h' λ c o C e=>sb.extBut _ _ (λ z'=>C (by rw[z'];simp)) (kp c o C e))))
 unfold pyNext;refine wpAny_bind (wpAny_attempt (wpAny_callSpecial?_slot (name:=Str.ofString "__next__") hT F.slot_zip_next (wpAny_call_entry F.slot_zip_next hT F.entry_zip_next (?_:wpAny _ _ (field (.ref z) 2 >>= _) _ _ _) (F.args_zip_next_1 _))));refine wpAny_bind (wpAny_field hz rfl (x:= .bool false) rfl (?_:wpAny _ _ (field (.ref z) 3 >>= _) _ _ _));refine wpAny_bind (wpAny_field hz rfl (x:= .ref TI) rfl (wpAny_bind (wpAny_seqItems ae rfl (?_:wpAny _ _ (Builtin.SmallTypes.ownedTupleIsFree (.ref z) >>= _) _ _ _))));refine wpAny_bind ?_;unfold Builtin.SmallTypes.ownedTupleIsFree;refine wpAny_bind (wpAny_field hz rfl (x:= .none) rfl (wpAny_pure ?_));simp only[if_true];refine wpAny_bind (wpAny_rule (wpAny_bind (wpAny_field hz rfl (x:= .ref TO) rfl ?_)));refine wpAny_bind (wpAny_setField_rec hz (by simp) λ U z1 s1=> ?_);replace z1:IsZip U z TI TO .ellipsis:=z1;refine wpAny_bind ?_;simp only [List.zipIdx_cons,List.zipIdx_nil,List.forIn_cons,List.forIn_nil];refine wpAny_bind (wpAny_bind (wpAny_onRaise (?_:wpAny _ _ (Builtin.SmallTypes.nextOf (.ref i1) >>= _) _ _ _)));have aa:om b1 U l1 xs:=p1.at λ o e=>s1.extBut _ _ m1 e;have I:oH b1 U i1 l1 k:=q1.at λ o e=>s1.extBut _ _ n3 e;cases J:xs[k]? with
 | none =>refine wpAny_bind (wg (s:={ s with heap:=U }) (by simpa using hh) I aa J λ h2 e kp he=>?_);refine wpAny_mono (fin h2 e (kp _ _ n3.symm z1) (λ c o C e'=>?_) he) (λ _ _ q=>q) λ _ _ q=>q.elim;simp only [List.mem_cons,List.not_mem_nil,or_false,not_or] at C;exact kp _ _ C.2.2.1 (s1.extBut _ _ C.1 e')
 | some v1=>
  have hy:ys[k]? = none:= by
   rcases hx with h | h
   .rw [J] at h;cases h
   .exact h
  refine wpAny_bind (lZ (s:={ s with heap:=U }) I aa J λ h2 ah s2=>wpAny_pure ?_);have t2:IsPair h2 TO a c:=s2.extBut _ _ n8 (s1.extBut _ _ n2 af);refine wpAny_bind (wpAny_seqItems (s:={ s with heap:=h2 }) t2 rfl (wpAny_bind (m_ (s:={ s with heap:=h2 }) t2 λ h3 t3 s3=>?_)));refine wpAny_bind (wpAny_letGo (wpAny_pure ?_));refine wpAny_bind (wpAny_bind (wpAny_onRaise (?_:wpAny _ _ (Builtin.SmallTypes.nextOf (.ref i2) >>= _) _ _ _)));refine wpAny_bind (wg (s:={ s with heap:=h3 }) (by simpa using hh) (q2.at λ o e=>s3.extBut _ _ n9.symm (s2.extBut _ _ ab.symm (s1.extBut _ _ n4 e))) (p2.at λ o e=>s3.extBut _ _ m6 (s2.extBut _ _ m7 (s1.extBut _ _ m5 e))) hy λ h4 e kp he=>?_);refine wpAny_mono (fin h4 e (kp _ _ n4.symm (s3.extBut _ _ n2.symm (s2.extBut _ _ n3.symm z1))) (λ c o C e'=>?_) he) (λ _ _ q=>q) λ _ _ q=>q.elim;simp only [List.mem_cons,List.not_mem_nil,or_false,not_or] at C;exact kp _ _ C.2.2.2 (s3.extBut _ _ C.2.1 (s2.extBut _ _ C.2.2.1 (s1.extBut _ _ C.1 e')))
end
section
variable {prog:Program} {w:World} {A:Around} {E:Value->Shared->Prop} {s:Shared} {b1 b2 b:Bool} {l1 l2 q it e:Addr} {xs ys:Array Value} {k:Nat}
noncomputable def Dj(b1 b2:Bool)(h:Heap)(l1 l2:Addr):Heap:=(h.push (fX b1 l1)).push (fX b2 l2)
noncomputable def LY(b1 b2:Bool)(h:Heap)(l1 l2:Addr):Heap:=((Dj b1 b2 h l1 l2).push { cls:= .type "tuple",data:= .seq #[.ref h.objs.size,.ref (h.push (fX b1 l1)).objs.size] }).push { cls:= .type "tuple",data:= .seq #[.none,.none] }
noncomputable def IG(b1 b2:Bool)(h:Heap)(l1 l2:Addr):Heap:=(LY b1 b2 h l1 l2).push { cls:= .type "zip",data:= .fields #[.none,.bool false,.bool false,.ref (Dj b1 b2 h l1 l2).objs.size,.ref ((Dj b1 b2 h l1 l2).push { cls:= .type "tuple",data:= .seq #[.ref h.objs.size,.ref (h.push (fX b1 l1)).objs.size] }).objs.size] }
theorem y9(b1 b2:Bool)(l1 l2:Addr)(xs ys:Array Value):Meets (Builtin.«zip.__new__» ⟨[.type "zip",.ref l1,.ref l2],[]⟩) (λ _ R s=>om b1 s.heap l1 xs/\om b2 s.heap l2 ys/\R (.ok (.ret (.ref (LY b1 b2 s.heap l1 l2).objs.size))) { s with heap:=IG b1 b2 s.heap l1 l2 }):=
 .of_wp λ prog w A R s h=>by obtain⟨C,g,d,tk,os⟩:=s;obtain⟨J,U,h⟩:=h;have I:=sub_zip;have L1:om b1 (Shared.heap ⟨C,g,d,tk,os⟩) l1 xs:=J;have L2:om b2 (Shared.heap ⟨C.push (fX b1 l1),g,d,tk,os⟩) l2 ys:=U.at λ o e=>Heap.get?_push_of_some _ e;wp_walk using j9 L1,j9 L2;exact⟨_,rfl,h⟩
theorem F9(h1:om b1 s.heap l1 xs)(h2:om b2 s.heap l2 ys)
  (h: ∀h' z TI TO i1 i2,L4 z TI TO i1 i2 l1 l2->OY b1 b2 z TI TO i1 i2 l1 l2 xs ys 0 .none h'->(∀c o,s.heap.get? c=some o->h'.get? c=some o)->(∀c∈[z,TI,TO,i1,i2],s.heap.objs.size<=c)->Q (.ref z) { s with heap:=h' }):
  wpAny (model prog w) A (call (.type "zip") [.ref l1,.ref l2]) Q E s:=by
 refine callType_new F.called_zip (by decide) (F.typeCall_zip_2 _ _) (F.newCall_zip_2 _ _) (λ obj=>F.args_object_init_3 obj _ _) F.entry_zip_new (y9 b1 b2 l1 l2 xs ys) ⟨h1,h2,?_⟩;have a1:(s.heap.push (fX b1 l1)).objs.size=s.heap.objs.size+1:=Heap.size_push ..;have a2:(Dj b1 b2 s.heap l1 l2).objs.size=s.heap.objs.size+2:=by unfold Dj;rw[Heap.size_push,a1]
 have a3:((Dj b1 b2 s.heap l1 l2).push { cls:= .type "tuple",data:= .seq #[.ref s.heap.objs.size,.ref (s.heap.push (fX b1 l1)).objs.size] }).objs.size=s.heap.objs.size+3:=by rw[Heap.size_push,a2]
 have a4:(LY b1 b2 s.heap l1 l2).objs.size=s.heap.objs.size+4:=by unfold LY;rw[Heap.size_push,a3]
 have I: ∀c o,(LY b1 b2 s.heap l1 l2).get? c=some o->(IG b1 b2 s.heap l1 l2).get? c=some o:= λ c o e=>Heap.get?_push_of_some _ e;have up2: ∀c o,(Dj b1 b2 s.heap l1 l2).get? c=some o->(IG b1 b2 s.heap l1 l2).get? c=some o:= λ c o e=>I c o (Heap.get?_push_of_some _ (Heap.get?_push_of_some _ e));have up: ∀c o,s.heap.get? c=some o->(IG b1 b2 s.heap l1 l2).get? c=some o:= λ c o e=>up2 c o (Heap.get?_push_of_some _ (Heap.get?_push_of_some _ e));have g5:(IG b1 b2 s.heap l1 l2).get? (LY b1 b2 s.heap l1 l2).objs.size=some _:=Heap.get?_push_size _ rfl;have g4:(IG b1 b2 s.heap l1 l2).get? ((Dj b1 b2 s.heap l1 l2).push { cls:= .type "tuple",data:= .seq #[.ref s.heap.objs.size,.ref (s.heap.push (fX b1 l1)).objs.size] }).objs.size=some _:=I _ _ (Heap.get?_push_size _ rfl);have g3:(IG b1 b2 s.heap l1 l2).get? (Dj b1 b2 s.heap l1 l2).objs.size=some _:=I _ _ (Heap.get?_push_of_some _ (Heap.get?_push_size _ rfl));have J:=h1.lt;have U:=h2.lt;refine⟨⟨_,g5,rfl⟩,h (IG b1 b2 s.heap l1 l2) _ (Dj b1 b2 s.heap l1 l2).objs.size ((Dj b1 b2 s.heap l1 l2).push { cls:= .type "tuple",data:= .seq #[.ref s.heap.objs.size,.ref (s.heap.push (fX b1 l1)).objs.size] }).objs.size s.heap.objs.size (s.heap.push (fX b1 l1)).objs.size ?_
  ⟨g5,g3,⟨_,_,g4⟩,oH.new.at λ o e=>up2 _ _ (Heap.get?_push_of_some _ e),oH.new.at λ o e=>up2 _ _ e,h1.at λ o e=>up _ _ e,h2.at λ o e=>up _ _ e⟩ up λ c hc=>?_⟩
 .rw[a3,a4,a2,a1];have e1: ∀j:Nat,l1≠s.heap.objs.size+j:= λ j z=>Nat.ne_of_lt (Nat.lt_of_lt_of_le J (Nat.le_add_right _ j)) z;have e2: ∀j:Nat,l2≠s.heap.objs.size+j:= λ j z=>Nat.ne_of_lt (Nat.lt_of_lt_of_le U (Nat.le_add_right _ j)) z;have ne: ∀i j:Nat,i≠j->s.heap.objs.size+i≠s.heap.objs.size+j:= λ i j h z=>h (Nat.add_left_cancel z);have C: ∀j:Nat,j≠0->s.heap.objs.size+j≠s.heap.objs.size:= λ j h z=>h (Nat.add_left_cancel (m:=j) (k:=0) z);refine⟨?_,?_,?_⟩;. simp only[List.nodup_cons,List.mem_cons,List.not_mem_nil,or_false,not_or,List.nodup_nil,and_true,not_false_eq_true];exact⟨⟨ne 4 2 (by decide),ne 4 3 (by decide),C 4 (by decide),ne 4 1 (by decide)⟩,⟨ne 2 3 (by decide),C 2 (by decide),ne 2 1 (by decide)⟩,⟨C 3 (by decide),ne 3 1 (by decide)⟩,(C 1 (by decide)).symm⟩
  .simp only[List.mem_cons,List.not_mem_nil,or_false,not_or];exact⟨e1 4,e1 3,Nat.ne_of_lt J,e1 1⟩
  .simp only[List.mem_cons,List.not_mem_nil,or_false,not_or];exact⟨e2 4,e2 3,Nat.ne_of_lt U,e2 1⟩
 .rw[a3,a4,a2,a1]at hc;simp only[List.mem_cons,List.not_mem_nil,or_false]at hc;rcases hc with e|e|e|e|e
  .rw[e];exact Nat.le_add_right _ 4
  .rw[e];exact Nat.le_add_right _ 2
  .rw[e];exact Nat.le_add_right _ 3
  .rw[e];exact Nat.le_refl _
  .rw[e];exact Nat.le_add_right _ 1
theorem vJ(b:Bool)(l:Addr)(xs:Array Value):Meets (Builtin.«enumerate.__new__» ⟨[.type "enumerate",.ref l],[]⟩) (λ _ R s=>om b s.heap l xs/\R (.ok (.ret (.ref (s.heap.push (fX b l)).objs.size)))
  { s with heap:=(s.heap.push (fX b l)).push { cls:= .type "enumerate",data:= .fields #[.none,.bool false,.ref s.heap.objs.size,rawInt 0,.none,.none] } }):=
 .of_wp λ prog w A R s h=>by
  obtain⟨I,g,d,tk,os⟩:=s;obtain⟨J,h⟩:=h;have C:=sub_enumerate;have o:om b (Shared.heap ⟨I,g,d,tk,os⟩) l xs:=J;wp_walk;refine wpAny_stack_any λ st=>wpAny_pure ?_;split
  .rename_i c _ _ _ _ _;cases(c==Value.type "enumerate")
   .wp_walk using j9 o;exact⟨_,rfl,h⟩
   .wp_walk using j9 o;exact⟨_,rfl,h⟩
  .wp_walk using j9 o;exact⟨_,rfl,h⟩
noncomputable abbrev OZ(b:Bool)(e it l:Addr)(xs:Array Value)(k:Nat)(h:Heap):Prop:=(∃old,IsEnum h e it k old)/\oH b h it l k/\om b h l xs
theorem AU(I:om b s.heap q xs)
  (h: ∀h' e it,e≠it->q≠e->q≠it->OZ b e it q xs 0 h'->(∀c o,s.heap.get? c=some o->h'.get? c=some o)->s.heap.objs.size<=e->s.heap.objs.size<=it->Q (.ref e) { s with heap:=h' }):
  wpAny (model prog w) A (call (.type "enumerate") [.ref q]) Q E s:=by
 refine callType_new F.called_enumerate (by decide) (F.typeCall_enumerate_1 _) (F.newCall_enumerate_1 _) (λ obj=>F.args_object_init_2 obj _) F.entry_enumerate_new (vJ b q xs) ⟨I,?_⟩;have a1:(s.heap.push (fX b q)).objs.size=s.heap.objs.size+1:=Heap.size_push ..;have C:=I.lt;refine⟨⟨_,Heap.get?_push_size _ rfl,rfl⟩,h _ _ s.heap.objs.size (λ z=>?_) (λ z=>?_) (Nat.ne_of_lt C) ⟨⟨.none,Heap.get?_push_size _ rfl⟩,oH.new.at λ o e=>Heap.get?_push_of_some _ e,I.at λ o e=>Heap.get?_push_of_some _ (Heap.get?_push_of_some _ e)⟩ (λ c o e=>Heap.get?_push_of_some _ (Heap.get?_push_of_some _ e)) ?_ (Nat.le_refl _)⟩;. rw[a1]at z;exact Nat.succ_ne_self _ z
 .rw[a1]at z;exact Nat.ne_of_lt (Nat.lt_succ_of_lt C) z
 simp
theorem yP(aa:e≠it)(ae:q≠e)(af:q≠it)(st:OZ b e it q xs k s.heap)(hx:xs[k]?=some v)
  (hQ: ∀h',IsEnumOut h' e it (k+1) v s.heap.objs.size->oH b h' it q (k+1)->om b h' q xs->IsPair h' s.heap.objs.size (.int k s.toks) v->(∀c o,c≠e->c≠it->s.heap.get? c=some o->h'.get? c=some o)->Q (some (.ref s.heap.objs.size)) { s with heap:=h',toks:=s.toks+1 }):
  wpAny (model prog w) A (pyNext (.ref e)) Q E s:=by
 obtain⟨⟨old,he⟩,hi,hq⟩:=st;have hT:s.TypeIs (.ref e) "enumerate":=⟨_,he,rfl⟩;have ag:e<s.heap.objs.size:=Heap.lt_size he;refine wpAny_bind (wpAny_attempt (wpAny_callSpecial?_slot (name:=Str.ofString "__next__") hT F.slot_enumerate_next (wpAny_call_entry F.slot_enumerate_next hT F.entry_enumerate_next (?_:wpAny _ _ (field (.ref e) 2 >>= _) _ _ _) (F.args_enumerate_next_1 _))));obtain⟨hp,g,d,tk,os⟩:=s;refine wpAny_bind (wpAny_field he rfl (x:= .ref it) rfl (wpAny_bind (lZ hi hq hx λ I ah s1=>?_)));have e1:IsEnum I e it k old:=(s1.2 e aa).trans he;refine wpAny_bind (wpAny_field (s:=⟨I,g,d,tk,os⟩) e1 rfl (x:=rawInt k) rfl (?_:wpAny _ _ (field (.ref e) 4 >>= _) _ _ ⟨I,g,d,tk,os⟩));refine wpAny_bind (wpAny_field (s:=⟨I,g,d,tk,os⟩) e1 rfl (x:= .none) rfl (?_:wpAny _ _ (mkInt k >>= _) _ _ ⟨I,g,d,tk,os⟩));refine wpAny_bind (wpAny_mkInt (?_:wpAny _ _ (setField (.ref e) 3 (rawInt (k+1)) >>= _) _ _ ⟨I,g,d,tk+1,os⟩));refine wpAny_bind (wpAny_setField_rec (s:=⟨I,g,d,tk+1,os⟩) e1 (by simp) λ h2 e2 s2=>(?_:wpAny _ _ (setField (.ref e) 4 .none >>= _) _ _ ⟨h2,g,d,tk+1,os⟩));refine wpAny_bind (wpAny_setField_rec (s:=⟨h2,g,d,tk+1,os⟩) e2 (by simp) λ U e3 s3=>(?_:wpAny _ _ (newTuple [.int k tk,v] >>= _) _ _ ⟨U,g,d,tk+1,os⟩));refine wpAny_bind (wpAny_newTuple ?_);have hsz:U.objs.size=hp.objs.size:=by rw[s3.1,s2.1,s1.1]
 have e4:IsEnum (U.push { cls:= .type "tuple",data:= .seq #[.int k tk,v] }) e it (k+1) old:=Heap.get?_push_of_some _ e3;have t4:IsPair (U.push { cls:= .type "tuple",data:= .seq #[.int k tk,v] }) hp.objs.size (.int k tk) v:=by rw[<- hsz];exact Heap.get?_push_size _ rfl
 have ab: ∀c o,c≠e->I.get? c=some o->(U.push { cls:= .type "tuple",data:= .seq #[.int k tk,v] }).get? c=some o:= λ c o J x=>Heap.get?_push_of_some _ (s3.extBut c o J (s2.extBut c o J x));rw[hsz];generalize U.push { cls:= .type "tuple",data:= .seq #[.int k tk,v] }=h4 at e4 t4 ab;refine wpAny_bind ?_;refine wpAny_bind (wpAny_field (s:=⟨h4,g,d,tk+1,os⟩) e4 rfl (x:= .none) rfl (wpAny_pure ?_));refine wpAny_bind (wpAny_rule (wpAny_bind (wpAny_field (s:=⟨h4,g,d,tk + 1,os⟩) e4 rfl (x:=old) rfl ?_)));refine wpAny_bind (wpAny_setField_rec (s:=⟨h4,g,d,tk + 1,os⟩) e4 (by simp) λ h5 e5 s5=>(?_:wpAny _ _ (Builtin.SmallTypes.ownedTupleHandOut (.ref e) (.ref hp.objs.size) >>= _) _ _ ⟨h5,g,d,tk + 1,os⟩));replace e5:IsEnum h5 e it (k + 1) v:=e5;refine wpAny_bind ?_;refine wpAny_bind (wpAny_setField_rec (s:=⟨h5,g,d,tk + 1,os⟩) e5 (by simp) λ h6 e6 s6=>?_);refine wpAny_setField_rec (s:=⟨h6,g,d,tk + 1,os⟩) e6 (by simp) λ h7 e7 s7=>?_;have up:∀ c o,c ≠ e->I.get? c=some o->h7.get? c=some o:=λ c o J x=>s7.extBut c o J (s6.extBut c o J (s5.extBut c o J (ab c o J x)));have C:hp.objs.size ≠ e:=Nat.ne_of_gt ag;exact wpAny_bind (wpAny_letGo (wpAny_pure ⟨_,rfl,wpAny_pure (hQ h7 e7 (ah.at λ o x=>up _ _ aa.symm x) (hq.at λ o x=>up _ _ ae (s1.extBut _ _ af x)) (s7.extBut _ _ C (s6.extBut _ _ C (s5.extBut _ _ C t4))) λ c o c1 c2 x=>up c o c1 (s1.extBut _ _ c2 x))⟩))
theorem Dt(hh:A.handled=none)(st:OZ b e it q xs k s.heap)(hx:xs[k]?=none)(J: ∀h',(∀c o,c≠it->s.heap.get? c=some o->h'.get? c=some o)->Q none { s with heap:=h' }):wpAny (model prog w) A (pyNext (.ref e)) Q E s:=by obtain⟨⟨old,he⟩,U,hq⟩:=st;have I:s.TypeIs (.ref e) "enumerate":=⟨_,he,rfl⟩;refine wpAny_bind (wpAny_attempt (wpAny_callSpecial?_slot (name:=Str.ofString "__next__") I F.slot_enumerate_next (wpAny_call_entry F.slot_enumerate_next I F.entry_enumerate_next (?_:wpAny _ _ (field (.ref e) 2 >>= _) _ _ _) (F.args_enumerate_next_1 _))));refine wpAny_bind (wpAny_field he rfl (x:= .ref it) rfl (wpAny_bind (wg (by omega) U hq hx λ h' x kp C=>?_)));obtain⟨o,ho,hc⟩:=C;exact wpAny_bind (wpAny_isInstance (T:="StopIteration") (b:=true) ⟨o,ho,hc⟩ isSubtype_stop (wpAny_pure (J _ kp)))
end
end Jt
namespace L2
open PySem PySem.Spec PyProof.Rows
noncomputable abbrev Key:=Sum Int Str
noncomputable def IH:Key->Value->Bool
 | .inl k,v=>Value.isInt k v
 | .inr x,v=>Value.isStrOf x v
noncomputable def Pz(w:World):Key->Int
 | .inl k=>hashInt k
 | .inr x=>hashStr w x
theorem cU: ∀{k:Key}{v:Value},IH k v=true->(∃i t,k=Sum.inl i/\v=Value.int i t)\/(∃x t,k=Sum.inr x/\v=Value.str x t)
 | .inl i,v,h=>by obtain⟨t,e⟩:=Value.isInt_shape (k:=i) (v:=v) h;grind
 | .inr x,v,h=>by obtain⟨t,e⟩:=Value.isStrOf_shape (x:=x) (v:=v) h;grind
theorem KN(a b:Int):decide ((Sum.inl a:Key)=Sum.inl b)=(a==b):=by grind
theorem JE(a b:Str):decide ((Sum.inr a:Key)=Sum.inr b)=decide (a=b):=by simp
theorem Jh(a:Int)(b:Str):decide ((Sum.inl a:Key)=Sum.inr b)=false:=decide_eq_false (λ q=>nomatch q)
theorem KP(a:Str)(b:Int):decide ((Sum.inr a:Key)=Sum.inl b)=false:=decide_eq_false (λ q=>nomatch q)
noncomputable def qU (prog:Program) (w:World):PySem.KeyKind prog w Key where
 is:=IH
 hash:=Pz w
 inj:=fun v a b ha hb=>by
  rcases cU ha with ⟨i,t,rfl,rfl⟩ | ⟨x,t,rfl,rfl⟩
  .rcases cU hb with ⟨j,u,rfl,e⟩ | ⟨y,u,rfl,e⟩
   .injection e with e1 _;rw [e1]
   .exact nomatch e
  .rcases cU hb with ⟨j,u,rfl,e⟩ | ⟨y,u,rfl,e⟩
   .exact nomatch e
   .injection e with e1 _;rw [e1]
 byValue:=fun k v h=>by
  rcases cU h with ⟨i,t,rfl,rfl⟩ | ⟨x,t,rfl,rfl⟩ <;> rfl
 pyHash:=fun hv h=>by
  rcases cU hv with ⟨i,t,rfl,rfl⟩ | ⟨x,t,rfl,rfl⟩
  .exact wpAny_pyHash_int h
  .exact wpAny_pyHash_str h
 eqBool:=fun hu hv h=>by
  rcases cU hu with ⟨i,t,rfl,rfl⟩ | ⟨x,t,rfl,rfl⟩
  .rcases cU hv with ⟨j,u,rfl,rfl⟩ | ⟨y,u,rfl,rfl⟩
   .rw [KN] at h;exact wpAny_eqBool_int h
   .rw [Jh] at h;exact SeqAt.EqAt.int_str i t y u _ _ _ _ h
  .rcases cU hv with ⟨j,u,rfl,rfl⟩ | ⟨y,u,rfl,rfl⟩
   .rw [KP] at h;exact SeqAt.EqAt.str_int x t j u _ _ _ _ h
   .rw [JE] at h;exact wpAny_eqBool_str h
 «strs»:=fun k x t v h=>by
  rcases cU h with ⟨i,u,rfl,e⟩ | ⟨y,u,rfl,e⟩
  .exact nomatch e
  .injection e with e1 _
   subst e1
   cases v <;> rfl
inductive V where
 | non | bl (b:Bool) | int (i:Int) | str (x:Str) | byt (b:Array UInt8) | flt (b:UInt64) | ref (a:Addr) | ty (n:String)
 deriving DecidableEq
noncomputable def RelV:V->Value->Prop
 | .non,u=>u=Value.none
 | .bl b,u=>u=Value.bool b
 | .int i,u=> ∃t,u=Value.int i t
 | .str x,u=> ∃t,u=Value.str x t
 | .byt b,u=> ∃t,u=Value.bytes b t
 | .flt b,u=> ∃t,u=Value.float b t
 | .ref a,u=>u=Value.ref a
 | .ty n,u=>u=Value.type n
noncomputable abbrev Vals:List V->List Value->Prop:=Paired RelV
theorem Vals.length(r:Vals xs us):xs.length=us.length:=Paired.length r
theorem Vals.get: ∀{xs:List V}{us:List Value}{i:Nat}{x:V},Vals xs us->xs[i]?=some x-> ∃u,us[i]?=some u/\RelV x u
 |_,_,_,_,.nil,e=>by grind
 |_,_,0,_,.cons r _,e=>by simp_all
 |_,_,i+1,x,.cons _ t,e=>by obtain⟨u,o,C⟩:=Vals.get (i:=i) (x:=x) t (by simp_all);grind
theorem Vals.set(r:RelV x u): ∀{xs:List V}{us:List Value}(i:Nat),Vals xs us->Vals (xs.set i x) (us.set i u)
 |_,_,_,.nil=> .nil
 |_,_,0,.cons _ t=> .cons r t
 |_,_,i+1,.cons q t=> .cons q (Vals.set r i t)
theorem Vals.append: ∀{xs ys:List V}{us ws:List Value},Vals xs us->Vals ys ws->Vals (xs++ys) (us++ws)
 |_,_,_,_,.nil,s=>s
 |_,_,_,_,.cons r t,s=> .cons r (Vals.append t s)
theorem Vals.take: ∀{xs:List V}{us:List Value}(n:Nat),Vals xs us->Vals (xs.take n) (us.take n)
 |_,_,0,_=> .nil
 |_,_,_+1,.nil=> .nil
 |_,_,n+1,.cons r t=> .cons r (Vals.take n t)
theorem Vals.drop: ∀{xs:List V}{us:List Value}(n:Nat),Vals xs us->Vals (xs.drop n) (us.drop n)
 |_,_,0,r=>r
 |_,_,_+1,.nil=> .nil
 |_,_,n+1,.cons _ t=>Vals.drop n t
noncomputable def RelO:Option V->Option Value->Prop
 |some v,some u=>RelV v u
 |none,none=>True
 |_,_=>False
noncomputable def KV{o:Type}:List (o×V)->List (o×Value)->Prop:=Paired λ(p:o×V) (q:o×Value)=>p.1=q.1/\RelV p.2 q.2
noncomputable def kV:Key->V
 | .inl i=> .int i
 | .inr x=> .str x
inductive HO where
  | lst (xs:List V)
  | tup (xs:List V)
  | dK (kvs:List (Key × V)) | dT (kvs:List (List Key × V))
  | set (S:Int->Bool) (n:Nat)
  | ins (C dx:Addr) (fs:List (Str × V))
  | own (x:Addr)
  | xd (fs:List (Str × V))
  | met (f x:Addr)
  | rng (lo hi:Int)
  | frz (o:Obj) (u:HO)
  | tbl (ps:Array Value)
  | ext (φ:Heap->Prop)
noncomputable abbrev Hp:=Addr->Option HO
noncomputable def upd(H:Hp)(a:Addr)(o:HO):Hp:= λ b=>if b=a then some o else H b
theorem bz:upd H a o a=some o:=by unfold upd;simp
theorem bj{a b:Addr}{o:HO}(h:b≠a):upd H a o b=H b:=by unfold upd;grind
theorem Eg:upd (upd H a o) a u=upd H a u:=by unfold upd;grind
theorem cB{H:Hp}{a b:Addr}{o:HO}(h:H a=some o)(h':H b=none):a≠b:=by grind
noncomputable def vY(h:Heap)(a:Addr)(items:Array Value):Prop:=IsTup h a items/\ ∃o,h.get? a=some o/\o.dict=none
theorem vY.new(h:Heap)(items:Array Value):vY (h.push { cls:= .type "tuple",data:= .seq items }) h.objs.size items:=⟨IsTup.new _ _,_,Heap.get?_push_size _ rfl,rfl⟩
section
variable (P:Program) (w:World)
noncomputable def d8(H:Hp)(h:Heap)(a:Addr):HO->Prop
 | .lst xs=>xs.length<=sizeLine/\ ∃(its:List Value) (n:Nat),Vals xs its/\h.get? a=some { cls:= .type "list",data:= .seq its.toArray n }
 | .tup xs=>xs.length<=sizeLine/\ ∃its:List Value,Vals xs its/\vY h a its.toArray
 | .dK kvs=>kvs.length<=sizeLine/\(a==sysModules)=false/\ ∃vs,KV kvs vs/\h.DictOf (qU P w) a vs
 | .dT kvs=>kvs.length<=sizeLine/\(a==sysModules)=false/\ ∃xs:List (List Key×Addr×Value),
   Paired (λ(p:List Key×V) (q:List Key×Addr×Value)=>p.1=q.1/\H q.2.1=some (.tup (p.1.map kV))/\RelV p.2 q.2.2) kvs xs/\
   ∃o es ep,h.get? a=some o/\o.ExactDict/\o.data= .dict es ep/\es.toList=xs.map (entryOfKey (tupleKind (qU P w)))/\(xs.map (·.1)).Nodup/\ep=es.size
 | .set S n=>h.SetOf (intKind P w) a S n
 | .ins C J fs=>H J=some (.own a)/\fs.length<=1000/\J≠a/\h.get? a=some (PySem.W.instObj C J)/\
   ∃I,h.Ns1 J I/\(∀f,RelO (fs.lookup f) (I f))/\PySem.Within I (fs.map (·.1))
 | .own _=> ∃o,h.get? a=some o
 | .xd fs=> ∃I,h.Ns1 a I/\ ∀f,RelO (fs.lookup f) (I f)
 | .rng lo hi=> ∃t u v,h.get? a=some { cls:= .type "range",data:= .fields #[.int lo t,.int hi u,.int 1 v] }
 | .frz o u=>h.get? a=some o/\d8 H h a u
 | .tbl qs=> ∃ps:Array Value,h.get? a=some { cls:= .none,data:= .fields ps }/\TriplesOk ps.toList/\ ∀(q:Str)(t0:Tok)(pos:Pos)(cv:Value),qs[0]?=some (.str q t0)->codeAmong pos ps.toList=some cv->
   ∃c' oc u vs t,cv= .ref c'/\H c'=some (.frz oc u)/\oc.data= .fields vs/\vs[1]?=some (.str q t)
 | .met f x=>h.get? a=some (PySem.W.methodObj (.ref f) (.ref x))
 | .ext U=>U h/\(∃o,h.get? a=some o)/\ ∀h1 h2:Heap,U h1->(∀o,h1.get? a=some o->h2.get? a=some o)->U h2
noncomputable def lh(H:Hp)(h:Heap):Prop:= ∀a o,H a=some o->d8 P w H h a o
end
section
variable {P:Program} {w:World} {H H':Hp} {h h':Heap} {a:Addr} {o:HO}
theorem d8.lt(x:d8 P w H h a o):a<h.objs.size:=by cases o with
 |lst xs=>obtain⟨_,_,_,_,e⟩:=x;exact Heap.lt_size e
 |tup xs=>obtain⟨_,_,_,p⟩:=x;exact p.1.lt
 |dK kvs=>obtain⟨_,_,_,_,o,_,_,e,_⟩:=x;exact Heap.lt_size e
 |dT kvs=>obtain⟨_,_,_,_,o,_,_,e,_⟩:=x;exact Heap.lt_size e
 |set S n=>obtain⟨o,_,_,_,e,_⟩:=x;exact Heap.lt_size e
 |ins C dx fs=>obtain⟨_,_,_,e,_⟩:=x;exact Heap.lt_size e
 |own y=>obtain⟨_,e⟩:=x;exact Heap.lt_size e
 |xd fs=>obtain⟨_,⟨_,_,_,e,_⟩,_⟩:=x;exact Heap.lt_size e
 |rng lo hi=>obtain⟨_,_,_,e⟩:=x;exact Heap.lt_size e
 |frz ob u=>obtain⟨e,_⟩:=x;exact Heap.lt_size e
 |tbl ps=>obtain⟨_,e,_⟩:=x;exact Heap.lt_size e
 |met f y=>exact Heap.lt_size (show h.get? a=some _ from x)
 |ext φ=>obtain⟨_,⟨_,e⟩,_⟩:=x;exact Heap.lt_size e
theorem Paired.mapP: ∀{C:List α}{I:List β},Paired F C I->(∀a b,F a b->G a b)->Paired G C I
 |_,_,.nil,_=> .nil
 |_,_,.cons r t,f=> .cons (f _ _ r) (Paired.mapP t f)
theorem d8.stay(x:d8 P w H h a o)(k: ∀b u,(b=a\/H b=some (.own a))->h.get? b=some u->h'.get? b=some u)
  (ho: ∀b,H b=some (.own a)->H' b=some (.own a))(ht: ∀b xs,H b=some (.tup xs)->H' b=some (.tup xs))(hf: ∀b o u,H b=some (.frz o u)->H' b=some (.frz o u):=by exact fun _ _ _ h=>h):d8 P w H' h' a o:=by induction o with
 |lst xs=>obtain⟨z,its,n,r,e⟩:=x;exact⟨z,its,n,r,k _ _ (.inl rfl) e⟩
 |tup xs=>obtain⟨z,its,r,⟨I,e,c⟩,U,e2,d⟩:=x;exact⟨z,its,r,⟨I,k _ _ (.inl rfl) e,c⟩,U,k _ _ (.inl rfl) e2,d⟩
 |dK kvs=>obtain⟨z,y,vs,r,I,es,J,e,c⟩:=x;exact⟨z,y,vs,r,I,es,J,k _ _ (.inl rfl) e,c⟩
 |dT kvs=>obtain⟨z,y,xs,r,I,es,J,e,c⟩:=x;exact⟨z,y,xs,Paired.mapP r λ p q z=>⟨z.1,ht _ _ z.2.1,z.2.2⟩,I,es,J,k _ _ (.inl rfl) e,c⟩
 |set S n=>obtain⟨I,es,J,t,e,c⟩:=x;exact⟨I,es,J,t,k _ _ (.inl rfl) e,c⟩
 |ins C dx fs=>obtain⟨d,z,ne,e,mA,⟨od,es,J,e2,c⟩,r⟩:=x;exact⟨ho _ d,z,ne,k _ _ (.inl rfl) e,mA,⟨od,es,J,k _ _ (.inr d) e2,c⟩,r⟩
 |own y=>obtain⟨I,e⟩:=x;exact⟨I,k _ _ (.inl rfl) e⟩
 |xd fs=>obtain⟨mA,⟨od,es,J,e,c⟩,r⟩:=x;exact⟨mA,⟨od,es,J,k _ _ (.inl rfl) e,c⟩,r⟩
 |rng lo hi=>obtain⟨t,u,v,e⟩:=x;exact⟨t,u,v,k _ _ (.inl rfl) e⟩
 |frz I u ih=>obtain⟨e,q⟩:=x;exact⟨k _ _ (.inl rfl) e,ih q⟩
 |tbl ps=>obtain⟨qs,e,tr,c⟩:=x;refine⟨qs,k a _ (.inl rfl) e,tr,λ q t0 pos cv h1 h2=>?_⟩;grind
 |met f y=>have e:h.get? a=some (PySem.W.methodObj (.ref f) (.ref y)):=x;show h'.get? a=some (PySem.W.methodObj (.ref f) (.ref y));grind
 |ext φ=>obtain⟨p,⟨o,e⟩,st⟩:=x;exact⟨st _ _ p λ o q=>k _ _ (.inl rfl) q,⟨o,k _ _ (.inl rfl) e⟩,st⟩
theorem lh.lt(x:lh P w H h)(e:H a=some o):a<h.objs.size:=(x a o e).lt
theorem lh.fresh(x:lh P w H h)(e:h.objs.size<=a):H a=none:=by cases q:H a with
 |none=>rfl
 |some u=>exact absurd (Nat.lt_of_lt_of_le (x.lt q) e) (Nat.lt_irrefl _)
theorem lh.kept(x:lh P w H h)(k: ∀b u,h.get? b=some u->h'.get? b=some u):lh P w H h':= λ a o e=>
 (x a o e).stay (λ b u _ q=>k b u q) (λ _ q=>q) λ _ _ q=>q
theorem lh.laid(x:lh P w H h)(k: ∀b u,h.get? b=some u->h'.get? b=some u)(J:h.objs.size<=a)(new:d8 P w (upd H a o) h' a o):lh P w (upd H a o) h':= λ b u e=>by
 have C:=x.fresh J;by_cases I:b=a;. subst I;rw[bz]at e;simp_all
 .rw[bj I]at e;exact(x b u e).stay (λ c v _ q=>k c v q) (λ c q=>by rw[bj (cB q C)];exact q) (λ c xs q=>by rw[bj (cB q C)];exact q) λ c U u q=>by rw[bj (cB q C)];exact q
end
noncomputable def Rd(H:Hp)(a:Addr)(u:HO):Prop:=H a=some u\/ ∃o,H a=some (.frz o u)
theorem Rd.ok{H:Hp}{h:Heap}{a:Addr}{u:HO}(r:Rd H a u)(x:lh P w H h):d8 P w H h a u:=by
 rcases r with r|⟨o,r⟩
 .exact x a u r
 .obtain⟨_,q⟩:=x a _ r;exact q
noncomputable def Ox:Option HO->Prop
 |some (.lst _)=>True
 |some (.dK _)=>True
 |some (.dT _)=>True
 |some (.set _ _)=>True
 |some (.ins _ _ _)=>True
 |some (.ext _)=>True
 |_=>False
section
variable {P:Program} {w:World} {H:Hp} {h h':Heap} {x e:Addr} {o':HO}
theorem lh.write(ok:lh P w H h)(I:Ox (H x))(he:e=x\/H e=some (.own x))(k: ∀b u,b≠e->h.get? b=some u->h'.get? b=some u)(ab: ∃u,h'.get? e=some u)
  (new:d8 P w (upd H x o') h' x o'):lh P w (upd H x o') h':= λ b u q=>by
 have J: ∀c y,H c=some (.own y)->c≠x:= λ c y r z=>by subst z;rw[r]at I;exact I
 have U: ∀c xs,H c=some (.tup xs)->c≠x:= λ c xs r z=>by subst z;rw[r]at I;exact I
 have aa: ∀c ob u,H c=some (.frz ob u)->c≠x:= λ c ob u r z=>by subst z;rw[r]at I;exact I
 by_cases hb:b=x;. subst hb;rw[bz]at q;cases q;exact new
 .rw[bj hb]at q;by_cases C:b=e
  .have q':H b=some (.own x):=by
    rcases he with z|z
    .exact absurd (C.trans z) hb
    .rw[C];exact z
   rw[q]at q';cases q';obtain⟨v,hv⟩:=ab;exact⟨v,by rw[C];exact hv⟩
  .refine(ok b u q).stay (λ c v hc r=>k c v ?_ r) (λ c r=>by rw[bj (J c b r)];exact r) (λ c xs r=>by rw[bj (U c xs r)];exact r) λ c ob v r=>by rw[bj (aa c ob v r)];exact r
   grind
end
structure Un (fs ex:List Addr) (H H':Hp) (h h':Heap):Prop where
 keep:∀ b o,h.get? b=some o->H b=none->b ∉ fs->b ∉ ex->h'.get? b=some o
 slot:∀ b o,h.get? b=some o->H b=none->b ∈ fs->b ∉ ex->∃ sl,h'.get? b=some { o with slots:=sl }
 free:∀ b o,h.get? b=some o->H b=none->b ∉ ex->H' b=none
 there:∀ b o,h.get? b=some o->b ∉ ex->∃ o',h'.get? b=some o'
 tups:∀ b xs,H b=some (.tup xs)->H' b=some (.tup xs)
 frzs:∀ b o u,H b=some (.frz o u)->H' b=some (.frz o u)
 tbls:∀ b ps,H b=some (.tbl ps)->∃ more,H' b=some (.tbl (ps ++ more))
section
variable {fs ex:List Addr} {H H1:Hp} {h h1 h':Heap} {a x e:Addr} {o:HO}
theorem Un.any(u:Un fs ex H H1 h h1){b:Addr}{C:Obj}(q:h.get? b=some C)(n:H b=none)(hx:b∉ex): ∃sl,h1.get? b=some { C with slots:=sl }:=by
 by_cases I:b∈fs;. exact u.slot b C q n I hx
 .exact⟨C.slots,u.keep b C q n I hx⟩
theorem Un.kept(k: ∀b u,h.get? b=some u->h'.get? b=some u):Un fs ex H H h h':=
 ⟨λ b C q _ _ _=>k b C q,λ b C q _ _ _=>⟨C.slots,k b C q⟩,λ _ _ _ n _=>n,λ b C q _=>⟨C,k b C q⟩,λ _ _ q=>q,λ _ _ _ q=>q,λ _ ps q=>⟨#[],by grind⟩⟩
theorem Un.refl:Un fs ex H H h h:=Un.kept λ _ _ q=>q
theorem Un.laid(k: ∀b u,h.get? b=some u->h'.get? b=some u)(hp:h.objs.size<=a)(C:H a=none):Un fs ex H (upd H a o) h h' where
 keep:= λ b u q _ _ _=>k b u q
 slot:= λ b u q _ _ _=>⟨u.slots,k b u q⟩
 free:= λ b u q n _=>by rw[bj (Nat.ne_of_lt (Nat.lt_of_lt_of_le (Heap.lt_size q) hp))];exact n
 there:= λ b u q _=>⟨u,k b u q⟩
 tups:= λ b xs q=>by rw[bj (cB q C)];exact q
 frzs:= λ b u xs q=>by rw[bj (cB q C)];exact q
 tbls:= λ b ps q=>⟨#[],by rw[bj (cB q C),q];simp⟩
theorem Un.write(C:Ox (H x))(he:e=x\/H e=some (.own x))(k: ∀b u,b≠e->h.get? b=some u->h'.get? b=some u)(J: ∃u,h'.get? e=some u):Un fs ex H (upd H x o) h h':=by
 have hx: ∀b,H b=none->b≠x:= λ b n z=>by subst z;rw[n]at C;exact C
 have I: ∀b,H b=none->b≠e:= λ b n z=>by simp_all
 have hm: ∀b u,H b=some u-> ¬Ox (some u)->b≠x:= λ b u q nm z=>by subst z;rw[q]at C;exact nm C
 refine⟨λ b u q n _ _=>k b u (I b n) q,λ b u q n _ _=>⟨u.slots,k b u (I b n) q⟩,λ b u q n _=>by rw[bj (hx b n)];exact n,λ b u q _=>?_,
  λ b xs q=>by rw[bj (hm b _ q λ z=>z)];exact q,λ b u xs q=>by rw[bj (hm b _ q λ z=>z)];exact q,λ b ps q=>⟨#[],by rw[bj (hm b _ q λ z=>z),q];simp⟩⟩;grind
end
noncomputable def OI(h:Heap)(H:Hp):List Addr:=(List.range h.objs.size).filter λ a=>(H a).isSome
noncomputable def qN(h:Heap)(H:Hp):Heap:=PySem.W.hideAll h (OI h H)
theorem ze(h:Heap)(H:Hp):(qN h H).objs.size=h.objs.size:=PySem.W.hideAll_size _ _
theorem Cw{H:Hp}{b:Addr}{o:Obj}(e:h.get? b=some o)(n:H b=none):(qN h H).get? b=some o:=
 PySem.W.hideAll_get _ e λ hm=>by have q:(H b).isSome=true:=(List.mem_filter.mp hm).2;grind
theorem E3(e:(qN h H).get? b=some o):h.get? b=some o/\H b=none:=by have C:h.get? b=some o:=PySem.W.of_hideAll (OI h H) e;refine⟨C,?_⟩;cases q:H b with
 |none=>rfl
 |some x=>have hm:b∈OI h H:=List.mem_filter.mpr ⟨List.mem_range.mpr (Heap.lt_size C),by simp[q]⟩;have z:(qN h H).get? b=none:=PySem.W.hideAll_none (OI h H) hm;simp_all
noncomputable def EF(g h:Heap)(L:Addr):List (Addr×Obj):=(List.range h.objs.size).filterMap λ a=>if a=L\/(g.get? a).isSome=true then none else(h.get? a).map λ o=>(a,o)
noncomputable def rest(g h:Heap)(L d:Addr):List (Addr×Obj):=(EF g h L).filter λ p=>decide (p.1≠d)
structure Mod (K:PySem.W.Frag) (mg:Str->Option Value) (base:Heap):Prop where
 kin:K.In base
 glob:base.Ns mainGlobals mg
 blt:∃ mb,base.Ns builtinsNs mb∧∀ x:Str,x ≠ "__name__" -> mb x=bootBuiltins x
 nolimit:base.NoLimit
structure Cx where
 prog:Program
 w:World
 K:PySem.W.Frag
 mg:Str->Option Value
 base:Heap
 A:Around
 N:List Str
 s₀:Shared
 H₀:Hp
 env:Env
 outer:List Env
 stack:List Env
 ex:List Addr
 fn:Str->Bool
 calm:Bool
 pn:List (Addr × Obj)
 xe:Value->Shared->Prop
noncomputable def v8:Str:="most_more"
noncomputable def GJ:Str:="most_more.<locals>.<lambda>"
noncomputable def yG(K:PySem.W.Frag)(H:Hp):Prop:= ∀c P,PySem.W.tabIn K v8=some (c,P)-> ∃C t0,H P=some (.tbl C)/\C[0]?=some (.str GJ t0)
theorem yG.un{K:PySem.W.Frag}{fs ex:List Addr}{H H':Hp}{h h':Heap}(t:yG K H)(u:Un fs ex H H' h h'):yG K H':= λ c P e=>by obtain⟨C,t0,h1,h2⟩:=t c P e;obtain⟨more,I⟩:=u.tbls P C h1;grind
noncomputable def iR(l:List Env):List Addr:=l.filterMap (·.frame)
noncomputable abbrev Cx.fs(X:Cx):List Addr:=iR X.outer
noncomputable def u5(sc:Scope)(x:Str):Prop:=sc.names.lookup x=some .local\/sc.names.lookup x=some .cell\/sc.names.lookup x=some .free
noncomputable def Loc(sc:Scope)(x:Str):Prop:=sc.names.lookup x=some .local\/sc.names.lookup x=some .cell
noncomputable def Look(env:Env)(h:Heap)(m:Str->Option Value)(x:Str)(u:Value):Prop:=
 (env.kindOf x=some .local/\m x=some u)\/((env.kindOf x=some .cell\/env.kindOf x=some .free)/\ ∃c,env.cells.lookup x=some c/\h.IsCell c (some u))
structure Cx.Ok (X:Cx):Prop where
 mod:Mod X.K X.mg X.base
 kind:X.env.scope.kind=.function
 glob:X.env.globals=mainGlobals
 blt:X.env.builtins=builtinsNs
 above:X.s₀.heap.objs.size ≤ X.env.locals
 inj:∀ x y c,X.env.cells.lookup x=some c->X.env.cells.lookup y=some c->x=y
 has:∀ x,(X.env.kindOf x=some .cell ∨ X.env.kindOf x=some .free)->∃ c,X.env.cells.lookup x=some c
 cab:∀ x c,X.fn x=true->X.env.cells.lookup x=some c->X.s₀.heap.objs.size ≤ c
 hd:X.calm=true->X.A.handled=none
 frames:X.A.frames=some X.stack
 stk:X.stack=X.outer ∨ (X.stack=X.env :: X.outer∧X.env.frame=some X.env.locals)
 exf:∀ b ∈ X.ex,b ≠ X.env.locals∧∀ x c,X.env.cells.lookup x=some c->c ≠ b
 bs:∀ b o,X.base.get? b=some o->X.s₀.heap.get? b=some o∧X.H₀ b=none
 bsz:X.base.objs.size ≤ X.s₀.heap.objs.size
 noex:∀ b o,X.base.get? b=some o->b ∉ X.ex
 exfs:∀ b ∈ X.ex,b ∉ X.fs
 funs:X.s₀.heap.FunFrames X.base X.outer
 frf:∀ b ∈ X.fs,X.H₀ b=none
 tb:yG X.K X.H₀
structure Inv (X:Cx) (pins:List (Addr × Obj)) (σ:List (Option V)) (H:Hp) (s:Shared):Prop where
 ok:X.Ok
 os:s.os=X.s₀.os
 bare:AllBare s.gens
 base:Un X.fs X.ex X.H₀ H X.s₀.heap s.heap
 loc:∃ m,s.heap.Ns X.env.locals m∧∀ (i:Nat) (x:Str) (v:V),X.N[i]? = some x->σ[i]? = some (some v)->u5 X.env.scope x->∃ u,RelV v u∧Look X.env s.heap m x u
 cell:∀ x c,X.env.cells.lookup x=some c->∃ v,s.heap.IsCell c v
 free:H X.env.locals=none
 freeC:∀ x c,X.env.cells.lookup x=some c->H c=none
 pin:∀ p ∈ X.pn ++ pins,s.heap.get? p.1=some p.2∧H p.1=none∧p.1 ≠ X.env.locals∧p.1 ∉ X.fs∧∀ v,p.2.data ≠ .cell v
 hok:lh X.prog X.w H s.heap
 len:σ.length=X.N.length
section
variable {X:Cx} {pins:List (Addr × Obj)} {σ:List (Option V)} {H H':Hp} {s:Shared} {h':Heap}
theorem Cx.Ok.nofr(ok:X.Ok){b:Addr}{o:Obj}(e:X.base.get? b=some o):b∉X.fs:= λ C=>by have:=(ok.funs.mem C).1;grind
theorem Inv.bs(I:Inv X pins σ H s): ∀b o,X.base.get? b=some o->s.heap.get? b=some o/\H b=none:= λ b o e=>
 ⟨I.base.keep b o (I.ok.bs b o e).1 (I.ok.bs b o e).2 (I.ok.nofr e) (I.ok.noex b o e),I.base.free b o (I.ok.bs b o e).1 (I.ok.bs b o e).2 (I.ok.noex b o e)⟩
theorem Inv.bk(I:Inv X pins σ H s): ∀b o,X.base.get? b=some o->s.heap.get? b=some o:= λ b o e=>(I.bs b o e).1
theorem Inv.tb(I:Inv X pins σ H s):yG X.K H:=I.ok.tb.un I.base
theorem Inv.mod(I:Inv X pins σ H s):Mod X.K X.mg X.base:=I.ok.mod
theorem Inv.kIn(I:Inv X pins σ H s):X.K.In s.heap:=I.ok.mod.kin.keeps I.bk
theorem Inv.lt(I:Inv X pins σ H s):X.env.locals<s.heap.objs.size:=let⟨_,C,_⟩:=I.loc;C.lt
theorem Inv.sz(I:Inv X pins σ H s):X.s₀.heap.objs.size<=s.heap.objs.size:=Nat.le_trans I.ok.above (Nat.le_of_lt I.lt)
theorem Inv.nofs(I:Inv X pins σ H s){a:Addr}(h:s.heap.objs.size<=a):a∉X.fs:= λ C=>by obtain⟨_,o,J,_⟩:=I.ok.funs.mem C;exact absurd (Nat.lt_of_lt_of_le (Heap.lt_size J) (Nat.le_trans I.sz h)) (Nat.lt_irrefl _)
theorem Inv.cne(I:Inv X pins σ H s): ∀x c,X.env.cells.lookup x=some c->c≠X.env.locals:= λ x c e z=>by obtain⟨v,o,U,hd⟩:=I.cell x c e;obtain⟨m,⟨o',es,ep,C,J,_⟩,_⟩:=I.loc;grind
theorem Inv.funs(I:Inv X pins σ H s):s.heap.FunFrames X.base X.outer:=by
 have all: ∀(l:List Env),(∀b∈iR l,b∈X.fs)->X.s₀.heap.FunFrames X.base l->s.heap.FunFrames X.base l:=by intro l;induction l with
  |nil=>intro _ _;trivial
  |cons env r U=>intro hs hl;obtain⟨hk,⟨L,o,hf,hn,ho,hd⟩,hr⟩:=hl;have C:L∈X.fs:=hs L (by unfold iR;grind);obtain⟨sl,e⟩:=I.base.slot L o ho (I.ok.frf L C) C λ z=>I.ok.exfs L z C;exact⟨hk,⟨L,_,hf,hn,e,hd⟩,U (λ b J=>hs b (by unfold iR;rw[List.filterMap_cons,hf];exact List.mem_cons_of_mem _ J)) hr⟩
 exact all X.outer (λ _ J=>J) I.ok.funs
theorem Inv.stack(I:Inv X pins σ H s):s.heap.FunFrames X.base X.stack:=by
 rcases I.ok.stk with e|⟨e,hf⟩
 .rw[e];exact I.funs
 .rw[e];obtain⟨m,C,_⟩:=I.loc;refine .cons (by rw[I.ok.kind];decide) hf C ?_ I.funs;exact Heap.get?_none_of_le (Nat.le_trans I.ok.bsz I.ok.above)
theorem Inv.stkSub(I:Inv X pins σ H s): ∀b∈iR X.stack,b∈X.env.locals::X.fs:= λ b C=>by
 rcases I.ok.stk with e|⟨e,hf⟩
 .grind
 .rw[e]at C;unfold iR at C;rw[List.filterMap_cons,hf]at C;exact C
theorem Inv.stkFree(I:Inv X pins σ H s): ∀b∈iR X.stack,H b=none:= λ b C=>by
 rcases List.mem_cons.mp (I.stkSub b C)with e|C
 .rw[e];exact I.free
 .obtain⟨_,o,J,_⟩:=I.ok.funs.mem C;exact I.base.free b o J (I.ok.frf b C) λ z=>I.ok.exfs b z C
theorem Inv.step{g':Array GenState}{t':Nat}{d':Drawn}{ch:List Addr}(I:Inv X pins σ H s)
  (C: ∀b∈ch,(b∈X.ex\/X.s₀.heap.objs.size<=b)/\b≠X.env.locals/\(∀x c,X.env.cells.lookup x=some c->c≠b)/\ ∀p∈X.pn++pins,p.1≠b)
  (keep: ∀b o,b≠X.env.locals->b∉X.fs->b∉ch->s.heap.get? b=some o->H b=none->h'.get? b=some o)
  (slot: ∀b o,b≠X.env.locals->b∈X.fs->b∉ch->s.heap.get? b=some o->H b=none-> ∃sl,h'.get? b=some { o with slots:=sl })(free: ∀b o,b∉ch->s.heap.get? b=some o->H b=none->H' b=none)
  (there: ∀b o,b∉ch->s.heap.get? b=some o-> ∃o',h'.get? b=some o')
  (aa: ∀b xs,H b=some (.tup xs)->H' b=some (.tup xs))(ab: ∀b o u,H b=some (.frz o u)->H' b=some (.frz o u))(ae: ∀b ps,H b=some (.tbl ps)-> ∃more,H' b=some (.tbl (ps++more)))
  (ns: ∀m,s.heap.Ns X.env.locals m->h'.Ns X.env.locals m)(ah:lh X.prog X.w H' h')(hg:AllBare g'):
  Inv X pins σ H' { s with heap:=h',gens:=g',drawn:=d',toks:=t' }:=by
 have af: ∀b o,X.s₀.heap.get? b=some o->b≠X.env.locals:= λ b o e=>Nat.ne_of_lt (Nat.lt_of_lt_of_le (Heap.lt_size e) I.ok.above);have J: ∀b o,X.s₀.heap.get? b=some o->b∉X.ex->b∉ch:= λ b o e hx hb=>by
  rcases(C b hb).1 with z|z
  .exact hx z
  .exact absurd (Nat.lt_of_lt_of_le (Heap.lt_size e) z) (Nat.lt_irrefl _)
 have cellK: ∀x c,X.env.cells.lookup x=some c-> ∀v,s.heap.IsCell c v->h'.IsCell c v:= λ x c e v ⟨o,ho,hd⟩=>by
  have ag:c∉ch:= λ z=>(C c z).2.2.1 x c e rfl;by_cases hc:c∈X.fs;. obtain⟨sl,q⟩:=slot c o (I.cne x c e) hc ag ho (I.freeC x c e);exact⟨_,q,hd⟩
  .exact⟨o,keep c o (I.cne x c e) hc ag ho (I.freeC x c e),hd⟩
 refine⟨I.ok,I.os,hg,⟨λ b o e n hb hx=>?_,λ b o e n hb hx=>?_,λ b o e n hx=>?_,λ b o e hx=>?_,λ b xs e=>aa b xs (I.base.tups b xs e),λ b o xs e=>ab b o xs (I.base.frzs b o xs e),λ b ps e=>?_⟩,?_,λ x c e=>?_,?_,λ x c e=>?_,λ p hp=>?_,ah,I.len⟩;. exact keep b o (af b o e) hb (J b o e hx) (I.base.keep b o e n hb hx) (I.base.free b o e n hx)
 .obtain⟨sl,U⟩:=I.base.slot b o e n hb hx;obtain⟨ai,e2⟩:=slot b _ (af b o e) hb (J b o e hx) U (I.base.free b o e n hx);grind
 .obtain⟨o',U⟩:=I.base.there b o e hx;exact free b o' (J b o e hx) U (I.base.free b o e n hx)
 .obtain⟨o',U⟩:=I.base.there b o e hx;exact there b o' (J b o e hx) U
 .obtain⟨m1,U⟩:=I.base.tbls b ps e;obtain⟨m2,e2⟩:=ae b _ U;exact⟨m1++m2,by rw[e2,Array.append_assoc]⟩
 .obtain⟨m,hn,hl⟩:=I.loc;refine⟨m,ns m hn,λ i x v U e2 e3=>?_⟩;obtain⟨u,r,l⟩:=hl i x v U e2 e3;refine⟨u,r,?_⟩;rcases l with l|⟨k,c,e,z⟩
  .exact .inl l
  .exact .inr ⟨k,c,e,cellK x c e _ z⟩
 .obtain⟨v,z⟩:=I.cell x c e;exact⟨v,cellK x c e v z⟩
 .obtain⟨m,⟨o,_,_,ho,_⟩,_⟩:=I.loc;exact free _ o (λ z=>(C _ z).2.1 rfl) ho I.free
 .obtain⟨v,o,ho,hd⟩:=I.cell x c e;exact free c o (λ z=>(C c z).2.2.1 x c e rfl) ho (I.freeC x c e)
 .obtain⟨e,n,ne,nf,d⟩:=I.pin p hp;grind
theorem Inv.un(I:Inv X pins σ H s)(u:Un X.fs [] H H' s.heap h')(J:lh X.prog X.w H' h'):Inv X pins σ H' { s with heap:=h',toks:=t' }:=by obtain⟨m,⟨o,es,ep,ho,r⟩,_⟩:=id I.loc;obtain⟨sl,hL⟩:=u.any ho I.free (by simp);exact I.step (g':=s.gens) (d':=s.drawn) (ch:=[]) (λ _ z=>nomatch z) (λ b o _ U _ e n=>u.keep b o e n U (by simp)) (λ b o _ U _ e n=>u.slot b o e n U (by simp)) (λ b o _ e n=>u.free b o e n (by simp)) (λ b o _ e=>u.there b o e (by simp)) u.tups u.frzs u.tbls (λ m' hm=>by obtain⟨o',aa,ab,C,r'⟩:=hm;rw[ho]at C;cases C;exact⟨_,aa,ab,hL,r'⟩) J I.bare
theorem Inv.call{d':Drawn}{ch:List Addr}(I:Inv X pins σ H s)(u:Un (iR X.stack) ch H H' s.heap h')(aa:lh X.prog X.w H' h')(hg:AllBare g')
  (J: ∀b∈ch,(b∈X.ex\/X.s₀.heap.objs.size<=b)/\b≠X.env.locals/\(∀x c,X.env.cells.lookup x=some c->c≠b)/\ ∀p∈X.pn++pins,p.1≠b):
  Inv X pins σ H' { s with heap:=h',gens:=g',drawn:=d',toks:=t' }:=by obtain⟨m,⟨o,es,ep,ho,r⟩,_⟩:=id I.loc;obtain⟨sl,hL⟩:=u.any ho I.free λ z=>(J _ z).2.1 rfl;exact I.step (ch:=ch) J (λ b o hL hb C e n=>u.keep b o e n (λ z=>(List.mem_cons.mp (I.stkSub b z)).elim hL hb) C) (λ b o _ _ C e n=>u.any e n C) (λ b o C e n=>u.free b o e n C) (λ b o C e=>u.there b o e C) u.tups u.frzs u.tbls (λ m' hm=>by obtain⟨o',ab,ae,U,r'⟩:=hm;rw[ho]at U;cases U;exact⟨_,ab,ae,hL,r'⟩) aa hg
theorem Inv.turned{it:Addr}(I:Inv X pins σ H s)(k: ∀b o,b≠it->s.heap.get? b=some o->h'.get? b=some o)(hn:H it=none)(J:it≠X.env.locals)
  (h1:it∈X.ex\/X.s₀.heap.objs.size<=it)(h2: ∀x c,X.env.cells.lookup x=some c->c≠it)(h3: ∀p∈X.pn++pins,p.1≠it):Inv X pins σ H { s with heap:=h',toks:=t' }:=by
 refine I.step (g':=s.gens) (d':=s.drawn) (ch:=[it]) (λ b hb=>?_) (λ b o _ _ C e _=>k b o (λ z=>C (by simp[z])) e) (λ b o _ _ C e _=>⟨o.slots,k b o (λ z=>C (by simp[z])) e⟩) (λ _ _ _ _ n=>n)
  (λ b o C e=>⟨o,k b o (λ z=>C (by simp[z])) e⟩) (λ _ _ e=>e) (λ _ _ _ e=>e) (λ b ps e=>⟨#[],by rw[e];simp⟩) (λ m hm=>?_) (λ b u e=>?_) I.bare;. grind
 .obtain⟨o,es,U,ho,r⟩:=hm;exact⟨o,es,U,k _ o (Ne.symm J) ho,r⟩
 .refine(I.hok b u e).stay (λ c v C q=>k c v ?_ q) (λ _ q=>q) λ _ _ q=>q;grind
theorem Inv.tok(I:Inv X pins σ H s)(t:Nat):Inv X pins σ H { s with toks:=t }:=I.un (h':=s.heap) (t':=t) Un.refl I.hok
theorem Inv.kept(I:Inv X pins σ H s)(k: ∀b u,s.heap.get? b=some u->h'.get? b=some u):Inv X pins σ H { s with heap:=h',toks:=t' }:=I.un (Un.kept k) (I.hok.kept k)
theorem Inv.laid{a:Addr}{o:HO}{t':Nat}(I:Inv X pins σ H s)(k: ∀b u,s.heap.get? b=some u->h'.get? b=some u)(C:s.heap.objs.size<=a)(new:d8 X.prog X.w (upd H a o) h' a o):
  Inv X pins σ (upd H a o) { s with heap:=h',toks:=t' }:=I.un (Un.laid k C (I.hok.fresh C)) (I.hok.laid k C new)
theorem Inv.write(I:Inv X pins σ H s)(J:Ox (H x))(he:e=x\/H e=some (.own x))(k: ∀b u,b≠e->s.heap.get? b=some u->h'.get? b=some u)(C: ∃u,h'.get? e=some u)
  (new:d8 X.prog X.w (upd H x o) h' x o):Inv X pins σ (upd H x o) { s with heap:=h',toks:=t' }:=I.un (Un.write J he k C) (I.hok.write J he k C new)
theorem Inv.weak(I:Inv X pins σ H s)(U:C.length=σ.length)(w: ∀(i:Nat) v,C[i]?=some (some v)->σ[i]?=some (some v)):Inv X pins C H s:=
 ⟨I.ok,I.os,I.bare,I.base,let⟨m,hn,J⟩:=I.loc;⟨m,hn,λ i x v e1 e2 e3=>J i x v e1 (w i v e2) e3⟩,I.cell,I.free,I.freeC,I.pin,I.hok,U.trans I.len⟩
theorem Inv.pins_of(I:Inv X pins σ H s)(h: ∀p∈pins',s.heap.get? p.1=some p.2/\H p.1=none/\p.1≠X.env.locals/\p.1∉X.fs/\ ∀v,p.2.data≠ .cell v):Inv X pins' σ H s:=
 ⟨I.ok,I.os,I.bare,I.base,I.loc,I.cell,I.free,I.freeC,λ p C=>(List.mem_append.mp C).elim (λ z=>I.pin p (List.mem_append_left _ z)) (h p),I.hok,I.len⟩
theorem oB{N:List Str}(C:N.Nodup){i j:Nat}{x:Str}(a:N[i]?=some x)(b:N[j]?=some x):i=j:=by obtain⟨h1,I⟩:=List.getElem?_eq_some_iff.mp a;obtain⟨h2,J⟩:=List.getElem?_eq_some_iff.mp b;exact(List.getElem_inj C).mp (I.trans J.symm)
theorem qw{i:Nat}{x:Str}{v:V}{u:Value}{Q:Unit->Shared->Prop}(I:Inv X pins σ H s)(hN:X.N.Nodup)(hi:X.N[i]?=some x)(hx:Loc X.env.scope x)(r:RelV v u)
  (h: ∀s',Inv X pins (σ.set i (some v)) H s'->(∃a,Heap.SameBut a s.heap s'.heap/\(a=X.env.locals\/X.env.cells.lookup x=some a))->Q () s')(hf:X.fn x=true\/X.env.scope.names.lookup x=some .local:=by first|exact .inl rfl|exact .inr rfl|assumption):wpAny M A (storeName X.env x u) Q E s:=by
 obtain⟨m,hn,hl⟩:=id I.loc;have ae:(X.env.scope.kind== .class||(X.env.scope.kind== .module&&X.env.locals !=X.env.globals))=false:=by rw[I.ok.kind];rfl
 have aa:i<σ.length:=by rw[I.len];exact(List.getElem?_eq_some_iff.mp hi).1
 have cne:=I.cne;have tracked: ∀{a:Addr}{h':Heap},(∃o,s.heap.get? a=some o/\H a=none)->Heap.SameBut a s.heap h'->lh X.prog X.w H h':= λ{a h'} ha hs b ob e=>by refine(I.hok b ob e).stay (λ c w' J q=>(hs.2 c ?_).trans q) (λ _ q=>q) λ _ _ q=>q;grind
 rcases hx with hk|hk
 .refine wpAny_storeName_local hk hn (λ h' aj hs=>?_) ae;obtain⟨oL,_,_,ak,_⟩:=id hn;refine h _ ⟨I.ok,I.os,I.bare,⟨λ b o e n hb hx=>?_,λ b o e n hb hx=>?_,I.base.free,λ b o e hx=>?_,I.base.tups,I.base.frzs,I.base.tbls⟩,⟨_,aj,λ j y v' C U e3=>?_⟩,λ y c e=>?_,I.free,I.freeC,λ p hp=>?_,tracked ⟨oL,ak,I.free⟩ hs,by simpa using I.len⟩ ⟨_,hs,.inl rfl⟩;. exact(hs.2 b (Nat.ne_of_lt (Nat.lt_of_lt_of_le (Heap.lt_size e) I.ok.above))).trans (I.base.keep b o e n hb hx)
  .obtain⟨sl,C⟩:=I.base.slot b o e n hb hx;exact⟨sl,(hs.2 b (Nat.ne_of_lt (Nat.lt_of_lt_of_le (Heap.lt_size e) I.ok.above))).trans C⟩
  .obtain⟨o',C⟩:=I.base.there b o e hx;exact⟨o',(hs.2 b (Nat.ne_of_lt (Nat.lt_of_lt_of_le (Heap.lt_size e) I.ok.above))).trans C⟩
  .by_cases hj:j=i;. subst hj;rw[hi]at C;cases C;rw[List.getElem?_set_self aa]at U;cases U;exact⟨u,r,.inl ⟨hk,by simp⟩⟩
   .rw[List.getElem?_set_ne (Ne.symm hj)]at U;obtain⟨u',r',q⟩:=hl j y v' C U e3;refine⟨u',r',?_⟩;rcases q with⟨k,e⟩|⟨k,c,e,z⟩
    .refine .inl ⟨k,?_⟩;have:y≠x:= λ e=>hj (oB hN C (e▸hi));simp[this,e]
    .exact .inr ⟨k,c,e,z.sameBut hs (cne y c e)⟩
  .obtain⟨w',z⟩:=I.cell y c e;exact⟨w',z.sameBut hs (cne y c e)⟩
  .obtain⟨e,n,ne,nf,d⟩:=I.pin p hp;exact⟨(hs.2 p.1 ne).trans e,n,ne,nf,d⟩
 .have ab:X.fn x=true:=by
   rcases hf with z|z
   .exact z
   .rw[z]at hk;cases hk
  obtain⟨c,J⟩:=I.ok.has x (.inl hk);obtain⟨w',z⟩:=I.cell x c J;refine wpAny_storeName_cell I.ok.kind hk J z (λ h' af hs=>?_);obtain⟨oc,ag,ah⟩:=id z;refine h { s with heap:=h' } ⟨I.ok,I.os,I.bare,⟨λ b o e n hb hx=>?_,λ b o e n hb hx=>?_,I.base.free,λ b o e hx=>?_,I.base.tups,I.base.frzs,I.base.tbls⟩,⟨m,hn.sameBut hs (Ne.symm (cne x c J)),λ j y v' C U e3=>?_⟩,λ y c' e=>?_,I.free,I.freeC,λ p hp=>?_,tracked ⟨oc,ag,I.freeC x c J⟩ hs,by simpa using I.len⟩ ⟨c,hs,.inr J⟩;. exact(hs.2 b (Nat.ne_of_lt (Nat.lt_of_lt_of_le (Heap.lt_size e) (I.ok.cab x c ab J)))).trans (I.base.keep b o e n hb hx)
  .obtain⟨sl,C⟩:=I.base.slot b o e n hb hx;exact⟨sl,(hs.2 b (Nat.ne_of_lt (Nat.lt_of_lt_of_le (Heap.lt_size e) (I.ok.cab x c ab J)))).trans C⟩
  .obtain⟨o',C⟩:=I.base.there b o e hx;exact⟨o',(hs.2 b (Nat.ne_of_lt (Nat.lt_of_lt_of_le (Heap.lt_size e) (I.ok.cab x c ab J)))).trans C⟩
  .by_cases hj:j=i;. subst hj;rw[hi]at C;cases C;rw[List.getElem?_set_self aa]at U;cases U;exact⟨u,r,.inr ⟨.inl hk,c,J,af⟩⟩
   .rw[List.getElem?_set_ne (Ne.symm hj)]at U;obtain⟨u',r',q⟩:=hl j y v' C U e3;refine⟨u',r',?_⟩;rcases q with q|⟨k,c',e,z'⟩
    .exact .inl q
    .refine .inr ⟨k,c',e,z'.sameBut hs ?_⟩;rintro rfl;exact hj (oB hN C (I.ok.inj _ _ _ e J▸hi))
  .by_cases ai:c'=c;. subst ai;exact⟨_,af⟩
   .obtain⟨w2,z2⟩:=I.cell y c' e;exact⟨w2,z2.sameBut hs ai⟩
  .obtain⟨e,n,ne,nf,d⟩:=I.pin p hp;refine⟨(hs.2 p.1 ?_).trans e,n,ne,nf,d⟩;intro q;rw[q,ag]at e;have q':oc=p.2:=Option.some.inj e;exact d w' (by rw[<- q'];exact ah)
theorem mZ{i:Nat}{x:Str}{v:V}{u:Value}{Q:Unit->Shared->Prop}(I:Inv X pins σ H s)(C:X.N.Nodup)(J:X.N[i]?=some x)(hx:Loc X.env.scope x)(r:RelV v u)
  (h: ∀s',Inv X pins (σ.set i (some v)) H s'->Q () s')(hf:X.fn x=true\/X.env.scope.names.lookup x=some .local:=by first | exact .inl rfl | exact .inr rfl | assumption):wpAny M A (storeName X.env x u) Q E s:=
 qw I C J hx r (λ s' U _=>h s' U) hf
theorem Inv.call'{ch:List Addr}(I:Inv X pins σ H s)(U:s'.os=s.os)(u:Un (iR X.stack) ch H H' s.heap s'.heap)(C:lh X.prog X.w H' s'.heap)(hg:AllBare s'.gens)
  (J: ∀b∈ch,(b∈X.ex\/X.s₀.heap.objs.size<=b)/\b≠X.env.locals/\(∀x c,X.env.cells.lookup x=some c->c≠b)/\ ∀p∈X.pn++pins,p.1≠b):Inv X pins σ H' s':=by obtain⟨h',g',d',t',o'⟩:=s';have e:o'=s.os:=U;subst e;exact I.call (g':=g') (t':=t') (d':=d') u C hg J
end
noncomputable abbrev XK:=Value->Option Addr->Hp->Prop
noncomputable abbrev St:=List (Option V)
noncomputable abbrev VK:=V->Hp->Prop
noncomputable abbrev TE:=St->Hp->VK->Prop
noncomputable abbrev TT:=St->Hp->(Bool->Hp->Prop)->Prop
noncomputable abbrev TA:=St->Hp->(List V->Hp->Prop)->Prop
structure Ends where
 nx:St->Hp->Prop
 rt:VK
 bk:St->Hp->Prop:=fun _ _=>False
 ct:St->Hp->Prop:=fun _ _=>False
noncomputable abbrev TS:=Ends->St->Hp->Prop
noncomputable def EP(X:Cx)(pins:List (Addr×Obj))(σ:St)(Q:VK)(u:Value)(s':Shared):Prop:= ∃v H',Inv X pins σ H' s'/\RelV v u/\Q v H'
noncomputable def TP(X:Cx)(pins:List (Addr×Obj))(σ:St)(Q:Bool->Hp->Prop)(b:Bool)(s':Shared):Prop:= ∃H',Inv X pins σ H' s'/\Q b H'
noncomputable def AP(X:Cx)(pins:List (Addr×Obj))(σ:St)(Q:List V->Hp->Prop)(us:List Value)(s':Shared):Prop:= ∃vs H',Inv X pins σ H' s'/\Vals vs us/\Q vs H'
noncomputable def SP(X:Cx)(pins:List (Addr×Obj))(D:Ends)(f:Flow)(s':Shared):Prop:=
 match f with
 | .next=> ∃C H',Inv X pins C H' s'/\D.nx C H'
 | .brk=> ∃C H',Inv X pins C H' s'/\D.bk C H'
 | .cont=> ∃C H',Inv X pins C H' s'/\D.ct C H'
 | .ret u=> ∃v C H',Inv X pins C H' s'/\RelV v u/\D.rt v H'
noncomputable def PE(X:Cx)(e:Expr)(t:TE):Prop:=
 ∀(pins:List (Addr×Obj))(s:Shared)(σ:St)(H:Hp)(Q:VK),Inv X pins σ H s->t σ H Q->wpAny (model X.prog X.w) X.A (eval e X.env) (EP X pins σ Q) X.xe s
noncomputable def PT(X:Cx)(e:Expr)(t:TT):Prop:=
 ∀(pins:List (Addr×Obj))(s:Shared)(σ:St)(H:Hp)(Q:Bool->Hp->Prop),Inv X pins σ H s->t σ H Q->wpAny (model X.prog X.w) X.A (isTrue e X.env (eval e X.env)) (TP X pins σ Q) X.xe s
noncomputable def PW(X:Cx)(e:Expr)(t:TT):Prop:=
 ∀(whole:Sem Value)(pins:List (Addr×Obj))(s:Shared)(σ:St)(H:Hp)(Q:Bool->Hp->Prop),Inv X pins σ H s->t σ H Q->wpAny (model X.prog X.w) X.A (isTrue e X.env whole) (TP X pins σ Q) X.xe s
theorem PW.pt(h:PW X e t):PT X e t:=h _
noncomputable def PA(X:Cx)(es:List Expr)(t:TA):Prop:=
 ∀(pos:Pos)(pins:List (Addr×Obj))(s:Shared)(σ:St)(H:Hp)(Q:List V->Hp->Prop),Inv X pins σ H s->t σ H Q->wpAny (model X.prog X.w) X.A (spliced (backTo pos (starEach es X.env))) (AP X pins σ Q) X.xe s
noncomputable def PS(X:Cx)(st:Stmt)(t:TS):Prop:=
 ∀(pins:List (Addr×Obj))(s:Shared)(σ:St)(H:Hp)(D:Ends),Inv X pins σ H s->t D σ H->wpAny (model X.prog X.w) X.A (exec st X.env) (SP X pins D) X.xe s
noncomputable def oI(X:Cx)(st:List Stmt)(t:TS):Prop:=
 ∀(pins:List (Addr×Obj))(s:Shared)(σ:St)(H:Hp)(D:Ends),Inv X pins σ H s->t D σ H->wpAny (model X.prog X.w) X.A (execs st X.env) (SP X pins D) X.xe s
theorem c_{M:Model}{A:Around}{E:Value->Shared->Prop}{s:Shared}(h:wpAny M A t Q E s)(C: ∀a s,Q a s->I a s):wpAny M A t I E s:=wpAny_mono h C λ _ _ x=>x
section
variable {X:Cx}
noncomputable def qI(i:Nat):TE:= λ σ H Q=> ∃v,σ[i]?=some (some v)/\Q v H
noncomputable def tC(v:V):TE:= λ _ H Q=>Q v H
theorem dP{pos:Pos}(hN:X.N[i]?=some x)(hv:u5 X.env.scope x)(hd:(x==("__debug__":Str))=false:=by decide)(U:(x==("__classdict__":Str))=false:=by decide):PE X (.Name x pos) (qI i):=by
 intro pins s σ H Q I h;obtain⟨v,e,h⟩:=h;obtain⟨m,hn,hl⟩:=I.loc;obtain⟨u,r,l⟩:=hl i x v hN e hv;have fin:EP X pins σ Q u s:=⟨v,H,I,r,h⟩;rcases l with⟨J,hm⟩|⟨J,c,hc,C⟩
 .exact wpAny_Name (wpAny_loadName_local I.ok.kind J hn hm fin) hd
 .rcases J with J|J
  .exact wpAny_Name (wpAny_loadName_cell I.ok.kind J hc C fin) hd
  .exact wpAny_Name (wpAny_loadName_free I.ok.kind J hc C fin U) hd
theorem v7:PE X (.Constant (.int i) j pos) (tC (.int i)):= λ _ _ _ H _ I h=>wpAny_Constant_int ⟨.int i,H,I.tok _,⟨_,rfl⟩,h⟩
theorem AO:PE X (.Constant (.bool b) j pos) (tC (.bl b)):= λ _ _ _ H _ I h=>Constant_bool ⟨.bl b,H,I,rfl,h⟩
theorem JL:PE X (.Constant .none j pos) (tC .non):= λ _ _ _ H _ I h=>Constant_none ⟨.non,H,I,rfl,h⟩
theorem eG:PE X (.Constant (.str x) j pos) (tC (.str x)):= λ _ _ _ H _ I h=>Calls.Constant_str ⟨.str x,H,I.tok _,⟨_,rfl⟩,h⟩
noncomputable def Gl(X:Cx)(x:Str):Prop:=X.env.kindOf x=some .globalImplicit
theorem jm{pins:List (Addr×Obj)}{s:Shared}{σ:St}{H:Hp}{x:Str}{u:Value}{pos:Pos}{Q:Value->Shared->Prop}(I:Inv X pins σ H s)(C:Gl X x)(hm:X.mg x=some u)(h:Q u s)
  (hd:(x==("__debug__":Str))=false:=by decide):wpAny (model X.prog X.w) X.A (eval (.Name x pos) X.env) Q E s:=
 Calls.Name_function_global I.ok.kind C (Calls.loadGlobal_global (by rw[I.ok.glob];exact I.mod.glob.keeps I.bk) hm h) hd
theorem i9{E:Value->Shared->Prop}{pins:List (Addr×Obj)}{s:Shared}{σ:St}{H:Hp}{x:Str}{u:Value}{pos:Pos}{Q:Value->Shared->Prop}(I:Inv X pins σ H s)(C:Gl X x)(hm:X.mg x=none)(J:bootBuiltins x=some u)(h:Q u s)
  (U:x≠"__name__":=by decide)(hd:(x==("__debug__":Str))=false:=by decide):wpAny (model X.prog X.w) X.A (eval (.Name x pos) X.env) Q E s:=by obtain⟨mb,h1,h2⟩:=I.mod.blt;exact Calls.Name_function_global I.ok.kind C (Calls.loadGlobal_builtin (by rw[I.ok.glob];exact I.mod.glob.keeps I.bk) hm (by rw[I.ok.blt];exact h1.keeps I.bk) ((h2 x U).trans J) h) hd
theorem yj{u:Value}{pos:Pos}(C:Gl X x)(hm:X.mg x=none)(J:bootBuiltins x=some u)(r:RelV v u)(U:x≠"__name__":=by decide)(hd:(x==("__debug__":Str))=false:=by decide):PE X (.Name x pos) (tC v):=
 λ _ _ _ H _ I h=>i9 I C hm J ⟨v,H,I,r,h⟩ U hd
variable {a b:Expr} {ta tb:TE} {pos:Pos}
variable {tA tB':TT} {rest:List Expr}
noncomputable def P0(t u:TT):TT:= λ σ H Q=>t σ H λ c H1=>if c=true then u σ H1 Q else Q false H1
noncomputable def Qb(t u:TT):TT:= λ σ H Q=>t σ H λ c H1=>if c=true then Q true H1 else u σ H1 Q
noncomputable def Me(t:TT):TT:= λ σ H Q=>t σ H λ c H1=>Q (!c) H1
theorem Fs(C:PT X a tA):PW X (.BoolOp .And [a] pos) tA:=by intro wh pins s σ H Q I h;refine isTrue_and (c_ (C pins s σ H Q I h) λ c s1 e=>?_);cases c with
 |true=>exact isTrue_and_nil e
 |false=>exact e
theorem BX(C:PT X a tA):PW X (.BoolOp .Or [a] pos) tA:=by intro wh pins s σ H Q I h;refine isTrue_or (c_ (C pins s σ H Q I h) λ c s1 e=>?_);cases c with
 |false=>exact isTrue_or_nil e
 |true=>exact e
theorem K7(U:PT X a tA)(hb:PW X (.BoolOp .And (b::rest) pos) tB'):PW X (.BoolOp .And (a::b::rest) pos) (P0 tA tB'):=by intro wh pins s σ H Q I h;refine isTrue_and (c_ (U pins s σ H _ I h) λ c s1 ⟨H1,C,J⟩=>?_);cases c with
 |true=>exact hb wh pins s1 σ H1 Q C J
 |false=>exact⟨H1,C,J⟩
theorem HR(U:PT X a tA)(hb:PW X (.BoolOp .Or (b::rest) pos) tB'):PW X (.BoolOp .Or (a::b::rest) pos) (Qb tA tB'):=by intro wh pins s σ H Q I h;refine isTrue_or (c_ (U pins s σ H _ I h) λ c s1 ⟨H1,C,J⟩=>?_);cases c with
 |true=>exact⟨H1,C,J⟩
 |false=>exact hb wh pins s1 σ H1 Q C J
theorem Ak(C:PT X a tA):PT X (.UnaryOp .Not a pos) (Me tA):=by intro pins s σ H Q I h;exact isTrue_not (C pins s σ H (λ c H1=>Q (!c) H1) I h)
noncomputable def M3(ta tb:TE):TE:= λ σ H Q=>ta σ H λ x H1=> ∃c,x= .bl c/\if c=true then tb σ H1 Q else Q (.bl false) H1
noncomputable def MA(ta:TE):TE:= λ σ H Q=>ta σ H λ x H1=> ∃c,x= .bl c/\Q (.bl (!c)) H1
theorem Lj{t:TE}(h:PE X a t):PE X (.BoolOp op [a] pos) t:= λ pins s σ H Q I hw=>BoolOp_one (h pins s σ H Q I hw)
theorem Lh(U:PE X a ta)(hb:PE X (.BoolOp .And (b::rest) pos) tb):PE X (.BoolOp .And (a::b::rest) pos) (M3 ta tb):=by intro pins s σ H Q I h;refine BoolOp_and (c_ (U pins s σ H _ I h) λ v s1 ⟨x,H1,J,r1,C⟩=>?_);obtain⟨c,rfl,C⟩:=C;cases r1;refine wpAny_truthy_bool ?_;cases c with
 |true=>exact hb pins s1 σ H1 Q J C
 |false=>exact⟨.bl false,H1,J,rfl,C⟩
theorem JM(J:PE X a ta):PE X (.UnaryOp .Not a pos) (MA ta):=by intro pins s σ H Q I h;refine UnaryOp_ (c_ (J pins s σ H _ I h) λ v s1 ⟨x,H1,U,r1,C⟩=>?_);obtain⟨c,rfl,C⟩:=C;cases r1;exact not_of (wpAny_truthy_bool ⟨.bl (!c),H1,U,rfl,C⟩)
noncomputable def Qn(t:TT)(ta tb:TE):TE:= λ σ H Q=>t σ H λ c H1=>if c=true then ta σ H1 Q else tb σ H1 Q
theorem D1(U:PT X c tA)(ha:PE X a ta)(hb:PE X b tb):PE X (.IfExp c a b pos) (Qn tA ta tb):=by intro pins s σ H Q I h;refine wpAny_IfExp (c_ (U pins s σ H _ I h) λ d s1 ⟨H1,C,J⟩=>?_);cases d with
 |true=>exact ha pins s1 σ H1 Q C J
 |false=>exact hb pins s1 σ H1 Q C J
end
noncomputable def jr(K:PySem.W.Frag)(H:Hp)(a:Addr)(xs:List V):Prop:=
 Rd H a (.lst xs)\/
  ∃(o:Obj) (its:Array Value) (n:Nat),K.lookup a=some o/\o.cls= .type "list"/\o.dict=none/\o.data= .seq its n/\its.size<=sizeLine/\Vals xs its.toList
noncomputable def gm(K:PySem.W.Frag)(H:Hp)(a:Addr)(xs:List V):Prop:=
 Rd H a (.tup xs)\/
  ∃(o:Obj) (its:Array Value) (n:Nat),K.lookup a=some o/\o.cls= .type "tuple"/\o.data= .seq its n/\its.size<=sizeLine/\Vals xs its.toList
noncomputable def O8:Value->Option V
 | .none=>some .non
 | .bool b=>some (.bl b)
 | .int i _=>some (.int i)
 | .str x _=>some (.str x)
 | .bytes b _=>some (.byt b)
 | .float b _=>some (.flt b)
 | .ref a=>some (.ref a)
 | .type n=>some (.ty n)
 |_=>none
theorem RelV.abs(r:RelV x u):O8 u=some x:=by cases x with
 |non=>cases r;rfl
 |bl _=>cases r;rfl
 |int _=>obtain⟨t,rfl⟩:=r;rfl
 |str _=>obtain⟨t,rfl⟩:=r;rfl
 |byt _=>obtain⟨t,rfl⟩:=r;rfl
 |flt _=>obtain⟨t,rfl⟩:=r;rfl
 |ref _=>cases r;rfl
 |ty _=>cases r;rfl
theorem RelV.inj{u:Value}(r:RelV x u)(q:RelV y u):x=y:=Option.some.inj (r.abs.symm.trans q.abs)
theorem Vals.inj: ∀{xs ys:List V}{us:List Value},Vals xs us->Vals ys us->xs=ys
 |_,_,_,.nil,.nil=>rfl
 |_,_,_,.cons r t,.cons C t'=>by rw[r.inj C,Vals.inj t t']
section
variable {X:Cx} {pins:List (Addr × Obj)} {σ:St} {H:Hp} {s:Shared} {a:Addr} {xs ys:List V}
theorem jr.of{K:PySem.W.Frag}(h:H a=some (.lst xs)):jr K H a xs:= .inl (.inl h)
theorem gm.of{K:PySem.W.Frag}(h:H a=some (.tup xs)):gm K H a xs:= .inl (.inl h)
theorem Inv.list(I:Inv X pins σ H s)(h:jr X.K H a xs): ∃its:List Value,Vals xs its/\PlainL s.heap a its.toArray/\xs.length<=sizeLine:=by
 rcases h with h|⟨o,its,n,C,J,hd,hs,hz,r⟩
 .obtain⟨z,its,n,r,e⟩:=h.ok I.hok;exact⟨its,r,⟨_,n,e,rfl,rfl,rfl⟩,z⟩
 .refine⟨its.toList,r,⟨o,n,I.kIn a o C,J,hd,by simpa using hs⟩,?_⟩;have e:=r.length;simp_all
theorem Inv.tuple(I:Inv X pins σ H s)(h:gm X.K H a xs): ∃its:List Value,Vals xs its/\IsTup s.heap a its.toArray/\xs.length<=sizeLine:=by
 rcases h with h|⟨o,its,n,C,J,hs,hz,r⟩
 .obtain⟨z,its,r,p⟩:=h.ok I.hok;exact⟨its,r,p.1,z⟩
 .refine⟨its.toList,r,⟨o,I.kIn a o C,J,n,by simpa using hs⟩,?_⟩;have e:=r.length;simp_all
theorem Inv.list_inj(I:Inv X pins σ H s)(h:jr X.K H a xs)(h':jr X.K H a ys):xs=ys:=by
 obtain⟨its,r,⟨o,n,e,_,_,d⟩,_⟩:=I.list h;obtain⟨its',J,⟨o',n',C,_,_,d'⟩,_⟩:=I.list h';rw[e]at C;cases C;rw[d]at d';injection d' with U _;have:its=its':=by simpa using congrArg Array.toList U
 subst this;exact r.inj J
theorem Inv.tuple_inj(I:Inv X pins σ H s)(h:gm X.K H a xs)(h':gm X.K H a ys):xs=ys:=by
 obtain⟨its,r,⟨o,e,_,n,d⟩,_⟩:=I.tuple h;obtain⟨its',J,⟨o',C,_,n',d'⟩,_⟩:=I.tuple h';rw[e]at C;cases C;rw[d]at d';injection d' with U _;have:its=its':=by simpa using congrArg Array.toList U
 subst this;exact r.inj J
end
noncomputable abbrev Cx.wish(X:Cx)(E:Value->Shared->Prop):Cx:={ X with xe:=E }
noncomputable abbrev Cx.nox(X:Cx):Cx:=X.wish λ _ _=>False
theorem Cx.Ok.wish{X:Cx}(ok:X.Ok)(E:Value->Shared->Prop):(X.wish E).Ok:=
 ⟨ok.mod,ok.kind,ok.glob,ok.blt,ok.above,ok.inj,ok.has,ok.cab,ok.hd,ok.frames,ok.stk,ok.exf,ok.bs,ok.bsz,ok.noex,ok.exfs,ok.funs,ok.frf,ok.tb⟩
theorem Cx.Ok.unwish{X:Cx}{E:Value->Shared->Prop}(ok:(X.wish E).Ok):X.Ok:=
 ⟨ok.mod,ok.kind,ok.glob,ok.blt,ok.above,ok.inj,ok.has,ok.cab,ok.hd,ok.frames,ok.stk,ok.exf,ok.bs,ok.bsz,ok.noex,ok.exfs,ok.funs,ok.frf,ok.tb⟩
section
variable {X:Cx} {pins:List (Addr × Obj)} {σ:St} {H:Hp} {s:Shared} {E:Value->Shared->Prop}
theorem Inv.wish(I:Inv X pins σ H s)(E:Value->Shared->Prop):Inv (X.wish E) pins σ H s:=⟨I.ok.wish E,I.os,I.bare,I.base,I.loc,I.cell,I.free,I.freeC,I.pin,I.hok,I.len⟩
theorem Inv.unwish(I:Inv (X.wish E) pins σ H s):Inv X pins σ H s:=⟨I.ok.unwish,I.os,I.bare,I.base,I.loc,I.cell,I.free,I.freeC,I.pin,I.hok,I.len⟩
theorem SP.unwish(h:SP (X.wish E) pins D f s'):SP X pins D f s':=by cases f with
 |next=>obtain⟨C,H',I,q⟩:=h;exact⟨C,H',I.unwish,q⟩
 |brk=>obtain⟨C,H',I,q⟩:=h;exact⟨C,H',I.unwish,q⟩
 |cont=>obtain⟨C,H',I,q⟩:=h;exact⟨C,H',I.unwish,q⟩
 |ret u=>obtain⟨v,C,H',I,r,q⟩:=h;exact⟨v,C,H',I.unwish,r,q⟩
theorem oI.nox{st:List Stmt}{t:TS}(h:oI X.nox st t):oI X st t:= λ pins s σ H D I hw=>
 wpAny_mono (h pins s σ H D (I.wish _) hw) (λ _ _ q=>q.unwish) λ _ _ z=>False.elim z
end
section
variable {X:Cx} {st:Stmt} {rest:List Stmt} {t u:TS} {e:Expr} {te:TE} {pos:Pos}
noncomputable def IC:TS:= λ D σ H=>D.nx σ H
noncomputable def zj(t u:TS):TS:= λ D σ H=>t { D with nx:=u D } σ H
theorem yh:oI X [] IC:= λ _ _ σ H _ I h=>wpAny_execs_nil ⟨σ,H,I,h⟩
theorem gN(h1:PS X st t)(h2:oI X rest u):oI X (st::rest) (zj t u):=by intro pins s σ H D I h;refine wpAny_execs_cons (c_ (h1 pins s σ H { D with nx:=u D } I h) λ f s1 q=>?_);cases f with
 |next=>obtain⟨C,H',J,q⟩:=q;exact h2 pins s1 C H' D J q
 |ret v=>exact q
 |brk=>exact q
 |cont=>exact q
theorem l3(h1:PS X st t):oI X [st] t:=by intro pins s σ H D I h;refine wpAny_execs_cons (c_ (h1 pins s σ H D I h) λ f s1 q=>?_);cases f with
 |next=>exact wpAny_execs_nil q
 |ret v=>exact q
 |brk=>exact q
 |cont=>exact q
theorem Inv.quiet{σ:St}{H:Hp}{s:Shared}(I:Inv X pins σ H s):interactive X.env=false:=by simp[interactive,I.ok.kind]
noncomputable def N5(te:TE):TS:= λ D σ H=>te σ H λ _ H1=>D.nx σ H1
theorem yd(he:PE X e te)(hs:swapsWith e none pos.line X.env=pure false:=by rfl):PS X (.Expr e pos) (N5 te):=by intro pins s σ H D I h;exact wpAny_Expr_any (c_ (he pins s σ H _ I h) λ v s1 ⟨x,H1,C,U,J⟩=>⟨σ,H1,C,J⟩) I.quiet hs
noncomputable def Kf(te:TE):TS:= λ D σ H=>te σ H D.rt
theorem sx(he:PE X e te):PS X (.Return (some e) pos) (Kf te):=by intro pins s σ H D I h;exact wpAny_Return_some (c_ (he pins s σ H _ I h) λ v s1 ⟨x,H1,C,J,U⟩=>⟨x,σ,H1,C,J,U⟩)
noncomputable def MG(c:TT)(t u:TS):TS:= λ D σ H=>c σ H λ b H1=>if b=true then t D σ H1 else u D σ H1
theorem HI{C:TT}(hc:PT X c C)(ha:oI X a t)(hb:oI X b u):PS X (.If c a b pos) (MG C t u):=by intro pins s σ H D I h;refine wpAny_If (c_ (hc pins s σ H _ I h) λ d s1 ⟨H1,J,U⟩=>?_);cases d with
 |true=>exact ha pins s1 σ H1 D J U
 |false=>exact hb pins s1 σ H1 D J U
end
noncomputable abbrev TG:=V->St->Hp->(St->Hp->Prop)->Prop
noncomputable abbrev Ip:=List V->St->Hp->(St->Hp->Prop)->Prop
noncomputable def PG(X:Cx)(target:Expr)(t:TG):Prop:=
 ∀(pins:List (Addr×Obj))(s:Shared)(σ:St)(H:Hp)(v:V)(u:Value)(Q:St->Hp->Prop),Inv X pins σ H s->RelV v u->t v σ H Q->
  wpAny (model X.prog X.w) X.A (assign target X.env u) (λ _ s'=> ∃C H',Inv X pins C H' s'/\Q C H') X.xe s
noncomputable def JO(X:Cx)(I:List Expr)(t:Ip):Prop:=
 ∀(pins:List (Addr×Obj))(s:Shared)(σ:St)(H:Hp)(vs:List V)(us:List Value)(Q:St->Hp->Prop),Inv X pins σ H s->Vals vs us->t vs σ H Q->
  wpAny (model X.prog X.w) X.A (assignInOrder ((assignEach I X.env).map (·.2)) us) (λ _ s'=> ∃C H',Inv X pins C H' s'/\Q C H') X.xe s
noncomputable abbrev Kv:=V->V->V->Hp->(Hp->Prop)->Prop
noncomputable def MY(X:Cx)(t:Kv):Prop:=
 ∀(pins:List (Addr×Obj))(s:Shared)(σ:St)(H:Hp)(o i v:V)(C I u:Value)(Q:Hp->Prop),Inv X pins σ H s->RelV o C->RelV i I->RelV v u->t o i v H Q->
  wpAny (model X.prog X.w) X.A (setItem C I u) (λ _ s'=> ∃H',Inv X pins σ H' s'/\Q H') X.xe s
section
variable {X:Cx} {pos:Pos}
noncomputable def ik(i:Nat):TG:= λ v σ H Q=>Q (σ.set i (some v)) H
theorem Fo(C:X.N.Nodup)(J:X.N[i]?=some x)(hx:Loc X.env.scope x)(hf:X.fn x=true\/X.env.scope.names.lookup x=some .local:=by first | exact .inl rfl | exact .inr rfl | assumption):PG X (.Name x pos) (ik i):=by intro pins s σ H v u Q I r h;exact wpAny_assign_Name (mZ I C J hx r (λ s' U=>⟨_,H,U,h⟩) hf)
noncomputable def PZ:Ip:= λ vs σ H Q=>vs=[]/\Q σ H
noncomputable def NK(t:TG)(u:Ip):Ip:= λ vs σ H Q=> ∃v r,vs=v::r/\t v σ H λ C H'=>u r C H' Q
theorem FQ:JO X [] PZ:=by intro pins s σ H vs us Q I r h;obtain⟨e,h⟩:=h;exact assignInOrder_nil ⟨σ,H,I,h⟩
theorem DP{t:TG}{u:Ip}(h1:PG X e t)(h2:JO X es u)
  (hs:(assignEach (e::es) X.env).map (·.2)=assign e X.env::(assignEach es X.env).map (·.2):=by rfl):JO X (e::es) (NK t u):=by intro pins s σ H vs us Q I r h;obtain⟨v,vr,J,h⟩:=h;subst J;cases r with
 |cons r U=>rw[hs];refine assignInOrder_cons (c_ (h1 pins s σ H _ _ _ I r h) λ _ s1 ⟨C,H1,I1,q1⟩=>?_);exact h2 pins s1 C H1 _ _ Q I1 U q1
noncomputable def Pl(K:PySem.W.Frag)(n:Nat)(t:Ip):TG:= λ v σ H Q=> ∃a xs,v= .ref a/\gm K H a xs/\xs.length=n/\t xs σ H Q
theorem JJ{k:Nat}{t:Ip}{n:Nat}(J:X.calm=true)(h:JO X es t)
  (U:(assignEach es X.env).length=n:=by rfl)(C:(assignEach es X.env).findIdx? (·.1)=none:=by rfl):PG X (.Tuple es k pos) (Pl X.K n t):=by intro pins s σ H v u Q I r hw;obtain⟨a,xs,e1,hq,hl,hw⟩:=hw;subst e1;cases r;obtain⟨its,rv,ht,hz⟩:=I.tuple hq;refine assign_Tuple_tuple (I.ok.hd J) ht (by simp[U,<- hl,rv.length]) C λ h' hx=>?_;have I1:Inv X pins σ H { s with heap:=h' }:=I.kept (t':=s.toks) λ b o e=>hx b o (Nat.ne_of_lt (Heap.lt_size e)) e;exact h pins _ σ H xs _ Q I1 (by omega) hw
noncomputable def O4(to C:TE)(t:Kv):TG:= λ v σ H Q=>to σ H λ o H1=>C σ H1 λ i H2=>t o i v H2 λ I=>Q σ I
theorem Jd{to U:TE}{t:Kv}(ho:PE X o to)(hi:PE X i U)(hs:MY X t)
  (ha: ∀v,assign (.Subscript o i pos) X.env v=(do
   let C<- holding [v] (eval o X.env)
   let J<- holding [v,C] (eval i X.env)
   standAt pos
   holding [v,C,J] (setItem C J v)
   release [v,C,J] []):=by intro _;rfl):PG X (.Subscript o i pos) (O4 to U t):=by intro pins s σ H v u Q I r h;rw[ha];refine wpAny_bind (wpAny_holding (c_ (ho pins s σ H _ I h) λ C s1 ⟨x,H1,I1,r1,q1⟩=>?_));refine wpAny_bind (wpAny_holding (c_ (hi pins s1 σ H1 _ I1 q1) λ J s2 ⟨y,H2,I2,r2,q2⟩=>?_));refine wpAny_bind (wpAny_standAt (wpAny_bind (wpAny_holding (c_ (hs pins s2 σ H2 x y v C J u _ I2 r1 r2 r q2) λ _ s3 ⟨H3,I3,q3⟩=>?_))));exact wpAny_release ⟨σ,H3,I3,q3⟩
noncomputable def lH(te:TE)(g:TG):TS:= λ D σ H=>te σ H λ x H1=>g x σ H1 D.nx
theorem Bh{tg e:Expr}{te:TE}{g:TG}(he:PE X e te)(C:PG X tg g)(hs:swapsWithSole [tg] e pos.line X.env=pure false:=by rfl)(hw:swappedStores [tg] e X.env=pure none:=by rfl)
  (h1:(assignEach [tg] X.env).map (·.2)=[assign tg X.env]:=by rfl):PS X (.Assign [tg] e pos) (lH te g):=by intro pins s σ H D I h;refine wpAny_Assign_stores (c_ (he pins s σ H _ I h) λ v s1 ⟨x,H1,J,U,q1⟩=>?_) hs hw;rw[h1];exact c_ (C pins s1 σ H1 x v _ J U q1) λ _ s2 q=>q
theorem jC(C:X.N.Nodup)(J:X.N[i]?=some x)(hx:Loc X.env.scope x)(he:PE X e te)(hs:swapsWith e (some (.Name x pos')) pos.line X.env=pure false:=by rfl)(hf:X.fn x=true\/X.env.scope.names.lookup x=some .local:=by first | exact .inl rfl | exact .inr rfl | assumption):
  PS X (.Assign [.Name x pos'] e pos) (lH te (ik i)):=by intro pins s σ H D I h;refine wpAny_Assign_Name (c_ (he pins s σ H _ I h) λ v s1 ⟨y,H1,U,r1,q1⟩=>?_) hs;exact mZ U C J hx r1 (λ s2 I2=>⟨_,H1,I2,q1⟩) hf
end
section
variable {X:Cx} {pos:Pos}
noncomputable def K3(c:TT)(tb:TS):TS:= λ D σ H=> ∃W:Nat->St->Hp->Prop,(∃m,W m σ H)/\ ∀m σ H,W m σ H->
 c σ H λ b H1=>if b=true then∃N:St->Hp->Prop,(∀C H',N C H'-> ∃I,I<m/\W I C H')/\tb { D with nx:=N,ct:=N,bk:=D.nx } σ H1 else D.nx σ H1
theorem Ab{tc:TT}{tb:TS}(hp:PassesOwn (model X.prog X.w) X.A X.env X.xe)(hc:PT X c tc)(hb:oI X body tb):PS X (.While c body [] pos) (K3 tc tb):=by intro pins s σ H D I h;obtain⟨W,⟨m0,w0⟩,turn⟩:=h;refine wpAny_While (codeAny_whileLoop (λ n s'=> ∃U H',Inv X pins U H' s'/\W n U H') ?_ m0 ⟨σ,H,I,w0⟩);rintro n s1 ⟨C,H1,I1,w1⟩;refine wpAny_passesOwn hp (c_ (hc pins s1 C H1 _ I1 (turn n C H1 w1)) λ b s2 ⟨H2,I2,q2⟩=>?_);cases b with
 |true=>obtain⟨N,hN,q2⟩:=q2;refine wpAny_passesOwn hp (c_ (hb pins s2 C H2 _ I2 q2) λ f s3 q3=>?_);cases f with
  |next=>obtain⟨J,H3,I3,n3⟩:=q3;grind
  |cont=>obtain⟨J,H3,I3,n3⟩:=q3;obtain⟨m',hm,w3⟩:=hN J H3 n3;exact⟨m',hm,J,H3,I3,w3⟩
  |brk=>exact q3
  |ret v=>exact q3
 |false=>exact wpAny_execs_nil ⟨C,H2,I2,q2⟩
end
structure It where
 go:Nat->Hp->Prop
 yld:Nat->Hp->V->Hp->Prop
 stop:Nat->Hp->Prop
noncomputable def jA(X:Cx)(pins:List (Addr×Obj))(H:Hp)(b:Addr):Prop:=
 H b=none/\b≠X.env.locals/\b∉X.fs/\(b∈X.ex\/X.s₀.heap.objs.size<=b)/\(∀x c,X.env.cells.lookup x=some c->c≠b)/\ ∀p∈X.pn++pins,p.1≠b
theorem Inv.fpOk{σ:St}{H H':Hp}{s:Shared}{b:Addr}(I:Inv X pins σ H s)(C:s.heap.objs.size<=b)(J:H' b=none):jA X pins H' b:=by
 refine⟨J,Nat.ne_of_gt (Nat.lt_of_lt_of_le I.lt C),I.nofs C,.inr (Nat.le_trans I.sz C),λ x c e z=>?_,λ p U z=>?_⟩;. obtain⟨v,q⟩:=I.cell x c e;exact absurd (Nat.lt_of_lt_of_le q.lt (by simp_all)) (Nat.lt_irrefl _)
 .exact absurd (Nat.lt_of_lt_of_le (Heap.lt_size (I.pin p U).1) (by rw[z];exact C)) (Nat.lt_irrefl _)
structure Turn (P:Program) (w:World) (K:PySem.W.Frag) (tg:Expr) (J:It) (fp:List Addr) (it:Addr) (tn:Nat->Heap->Prop):Prop where
 mem:it ∈ fp
 obj:∀ i h,tn i h->∀ b ∈ fp,∃ o,h.get? b=some o∧∀ v,o.data ≠ .cell v
 keep:∀ i h h',tn i h->(∀ b ∈ fp,∀ o,h.get? b=some o->h'.get? b=some o)->tn i h'
 item:∀ (X:Cx),X.prog=P->X.w=w->X.K=K->X.calm=true->∀ (i:Nat) (pins:List (Addr × Obj)) (s:Shared) (σ:St) (H:Hp) (E:Value->Shared->Prop),Inv X pins σ H s->(∀ b ∈ fp,jA X pins H b)->tn i s.heap->J.go i H ->
  wpAny (model P w) X.A (pyNext (.ref it)) (fun r s1=>∃ u,r=some u ∧
   wpAny (model P w) X.A (letOwnedTupleGo tg (.ref it) u) (fun _ s2=>∃ x H',Inv X pins σ H' s2∧RelV x u∧J.yld i H x H' ∧ tn (i + 1) s2.heap∧∀ b ∈ fp,H' b=none) E s1) E s
 done:∀ (X:Cx),X.prog=P->X.w=w->X.K=K->X.calm=true->∀ (i:Nat) (pins:List (Addr × Obj)) (s:Shared) (σ:St) (H:Hp) (E:Value->Shared->Prop),Inv X pins σ H s->(∀ b ∈ fp,jA X pins H b)->tn i s.heap->J.stop i H ->
  wpAny (model P w) X.A (pyNext (.ref it)) (fun r s1=>r=none∧Inv X pins σ H s1) E s
 self:∀ (A:Around) (i:Nat) (s:Shared) (Q:Value->Shared->Prop) (E:Value->Shared->Prop),tn i s.heap->Q (.ref it) s->wpAny (model P w) A (pyIter (.ref it)) Q E s
noncomputable abbrev TI:=St->Hp->(It->Hp->Prop)->Prop
noncomputable def Qa(X:Cx)(pins:List (Addr×Obj))(σ:St)(tg:Expr)(R:It->Hp->Prop)(C:Value)(s2:Shared):Prop:=
 ∃(it:Addr) (fp:List Addr) (I:Nat->Heap->Prop) (J:It) (H':Hp),C= .ref it/\Inv X pins σ H' s2/\Turn X.prog X.w X.K tg J fp it I/\I 0 s2.heap/\(∀b∈fp,jA X pins H' b)/\R J H'
noncomputable def PI(X:Cx)(tg iter:Expr)(C:TI):Prop:=
 ∀(pins:List (Addr×Obj))(s:Shared)(σ:St)(H:Hp)(R:It->Hp->Prop),Inv X pins σ H s->C σ H R->
  wpAny (model X.prog X.w) X.A (eval iter X.env) (λ v s1=>wpAny (model X.prog X.w) X.A (pyIter v) (Qa X pins σ tg R) X.xe s1) X.xe s
theorem CK{s:Shared}{tg:Expr}{it:Addr}{u:Value}{o:Obj}{n:String}{vs:Array Value}{Q:Unit->Shared->Prop}(I:s.heap.get? it=some o)(J:o.cls= .type n)(hd:o.data= .fields vs)
  (U:["enumerate","zip","dict_itemiterator","dict_reverseitemiterator","odict_iterator","itertools.zip_longest","itertools.pairwise"].contains n=false)(C:Q () s):wpAny M A (letOwnedTupleGo tg (.ref it) u) Q E s:=by cases tg <;> first
  |exact wpAny_pure C
  |(cases u <;> first
    |exact wpAny_pure C
    |(refine wpAny_bind (wpAny_load I ?_);rw[J,hd];show wpAny M A (if(["enumerate","zip","dict_itemiterator","dict_reverseitemiterator","odict_iterator","itertools.zip_longest","itertools.pairwise"].contains n&&vs[0]?==some (rawInt _))=true then _ else _) Q E s;rw[if_neg (by grind)];exact wpAny_pure C))
noncomputable def OU(K:PySem.W.Frag)(a:Addr):It:=
 ⟨λ i H=> ∃xs x,jr K H a xs/\xs[i]?=some x,λ i H x H'=>H'=H/\ ∀xs,jr K H a xs->xs[i]?=some x,λ i H=> ∃xs,jr K H a xs/\xs.length<=i⟩
noncomputable def O_(K:PySem.W.Frag)(a:Addr):It:=
 ⟨λ i H=> ∃xs x,gm K H a xs/\xs[i]?=some x,λ i H x H'=>H'=H/\ ∀xs,gm K H a xs->xs[i]?=some x,λ i H=> ∃xs,gm K H a xs/\xs.length<=i⟩
noncomputable def NV(lo:Int)(n:Nat):It:=⟨λ i _=>i<n,λ i H x H'=>H'=H/\x= .int (lo+i),λ i _=>n<=i⟩
theorem pw{K:PySem.W.Frag}{tg:Expr}(a it:Addr):Turn P w K tg (OU K a) [it] it (λ i h=>h.IsListIter it a i) where
 mem:=by simp
 obj:= λ i h st b C=>by
  have e:b=it:=by simpa using C
  subst e;obtain⟨o,e,c,d⟩:=st;exact⟨o,e,λ v z=>by rw[d]at z;cases z⟩
 keep:= λ i h h' st k=>st.at λ o e=>k it (by simp) o e
 item:=by intro X hP hw hK hc i pins s σ H E I hf st hg;subst hP hw hK;obtain⟨xs,x,U,hx⟩:=hg;obtain⟨its,rv,p,hz⟩:=I.list U;obtain⟨u,hu,ru⟩:=rv.get hx;obtain⟨f0,f1,f2,f3,f4,f5⟩:=hf it (by simp);refine wpAny_pyNext_list_item st p.isList (x:=u) (by simpa using hu) λ h' J sb=>?_;have I1:Inv X pins σ H { s with heap:=h' }:=I.turned (t':=s.toks) (λ b o C e=>(sb.2 b C).trans e) f0 f1 f3 f4 f5;obtain⟨o,e,c,d⟩:=id J;exact⟨u,rfl,CK (s:={ s with heap:=h' }) e c d (by decide) ⟨x,H,I1,ru,⟨rfl,λ ys hy=>by rw[I.list_inj hy U];exact hx⟩,J,λ b C=>(hf b C).1⟩⟩
 done:=by intro X hP hw hK hc i pins s σ H E I hf st hg;subst hP hw hK;obtain⟨xs,U,hx⟩:=hg;obtain⟨its,rv,p,hz⟩:=I.list U;obtain⟨f0,f1,f2,f3,f4,f5⟩:=hf it (by simp);have hl:=rv.length;exact wpAny_pyNext_list_end (I.ok.hd hc) st p.isList (by simp;omega) λ h' eb=>⟨rfl,I.turned (t':=s.toks) (λ b o C e=>eb b o C e) f0 f1 f3 f4 f5⟩
 self:= λ _ _ _ _ _ st h=>wpAny_pyIter_listiter st h
theorem vT{K:PySem.W.Frag}{tg:Expr}(a it:Addr):Turn P w K tg (O_ K a) [it] it (λ i h=>h.IsTupleIter it a i) where
 mem:=by simp
 obj:= λ i h st b C=>by
  have e:b=it:=by simpa using C
  subst e;obtain⟨o,e,c,d⟩:=st;exact⟨o,e,λ v z=>by rw[d]at z;cases z⟩
 keep:= λ i h h' st k=>st.at λ o e=>k it (by simp) o e
 item:=by intro X hP hw hK hc i pins s σ H E I hf st hg;subst hP hw hK;obtain⟨xs,x,U,hx⟩:=hg;obtain⟨its,rv,p,hz⟩:=I.tuple U;obtain⟨u,hu,ru⟩:=rv.get hx;obtain⟨f0,f1,f2,f3,f4,f5⟩:=hf it (by simp);refine wpAny_pyNext_tuple_item st (show s.heap.IsTuple a its.toArray from p) (x:=u) (by simpa using hu) λ h' J sb=>?_;have I1:Inv X pins σ H { s with heap:=h' }:=I.turned (t':=s.toks) (λ b o C e=>(sb.2 b C).trans e) f0 f1 f3 f4 f5;obtain⟨o,e,c,d⟩:=id J;exact⟨u,rfl,CK (s:={ s with heap:=h' }) e c d (by decide) ⟨x,H,I1,ru,⟨rfl,λ ys hy=>by rw[I.tuple_inj hy U];exact hx⟩,J,λ b C=>(hf b C).1⟩⟩
 done:=by intro X hP hw hK hc i pins s σ H E I hf st hg;subst hP hw hK;obtain⟨xs,U,hx⟩:=hg;obtain⟨its,rv,p,hz⟩:=I.tuple U;obtain⟨f0,f1,f2,f3,f4,f5⟩:=hf it (by simp);have hl:=rv.length;exact wpAny_pyNext_tuple_end (I.ok.hd hc) st (show s.heap.IsTuple a its.toArray from p) (by simp;omega) λ h' eb=>⟨rfl,I.turned (t':=s.toks) (λ b o C e=>eb b o C e) f0 f1 f3 f4 f5⟩
 self:= λ _ _ _ _ _ st h=>wpAny_pyIter_tupleiter st h
theorem wm{K:PySem.W.Frag}{tg:Expr}(it:Addr)(lo:Int)(n:Nat):Turn P w K tg (NV lo n) [it] it (λ i h=>IsRangeIter h it (lo+i*1) (n-i) 1) where
 mem:=by simp
 obj:= λ i h st b C=>by
  have e:b=it:=by simpa using C
  subst e;exact⟨_,st,λ v z=>by have z':Data.fields _=Data.cell v:=z;cases z'⟩
 keep:= λ i h h' st k=>k it (by simp) _ st
 item:=by intro X hP hw hK U i pins s σ H E I hf st hg;subst hP hw hK;obtain⟨f0,f1,f2,f3,f4,f5⟩:=hf it (by simp);have W:=Walks.range (prog:=X.prog) (w:=X.w) (I.ok.hd U) it lo 1 n;refine W.item i s _ _ hg st λ v h' tk hv J kk=>?_;obtain⟨t,rfl⟩:=hv;have I1:Inv X pins σ H { s with heap:=h',toks:=tk }:=I.turned (λ b o C e=>kk b o (by simpa using C) e) f0 f1 f3 f4 f5;refine⟨_,rfl,CK (s:={ s with heap:=h',toks:=tk }) (n:="range_iterator") J rfl rfl (by decide) ⟨.int (lo+i),H,I1,⟨t,?_⟩,⟨rfl,rfl⟩,J,λ b C=>(hf b C).1⟩⟩;simp
 done:=by intro X hP hw hK U i pins s σ H E I hf st hg;obtain⟨f0,f1,f2,f3,f4,f5⟩:=hf it (by simp);exact wpAny_pyNext_range_end (I.ok.hd U) st (by have:n<=i:=hg;omega) λ h' eb=>⟨rfl,I.turned (t':=s.toks) (λ b o C e=>eb b o C e) f0 f1 f3 f4 f5⟩
 self:= λ _ _ _ _ _ st h=>wpAny_pyIter_rangeiter st h
section
variable {X:Cx} {tg:Expr}
noncomputable def Nh(K:PySem.W.Frag)(C:TE):TI:= λ σ H R=>C σ H λ x H1=> ∃a,x= .ref a/\(∃xs,jr K H1 a xs)/\R (OU K a) H1
theorem Hl(J:PE X l U):PI X tg l (Nh X.K U):=by
 intro pins s σ H R I h;refine c_ (J pins s σ H _ I h) λ v s1 ⟨x,H1,C,r1,q1⟩=>?_;obtain⟨a,e,⟨xs,hq⟩,q⟩:=q1;subst e;cases r1;obtain⟨its,rv,p,hz⟩:=C.list hq;refine wpAny_pyIter_list p.isList ?_;refine⟨s1.heap.objs.size,[s1.heap.objs.size],_,_,H1,rfl,C.kept (t':=s1.toks) λ b o e=>Heap.get?_push_of_some _ e,pw a _,⟨_,Heap.get?_push_size _ rfl,rfl,rfl⟩,λ b hb=>?_,q⟩;have e:b=s1.heap.objs.size:=by simp_all
 subst e;exact C.fpOk (Nat.le_refl _) (C.hok.fresh (Nat.le_refl _))
theorem uR{σ:St}{H:Hp}{s:Shared}{R:It->Hp->Prop}{E:Value->Shared->Prop}{lo C:Int}{t u v:Tok}{tk:Nat}(I:Inv X pins σ H s)(h1: -(2^62)<=lo)(h2:lo<2^62)(U: -(2^62)<=C)(h4:C<2^62)
  (q:R (NV lo (C-lo).toNat) H):wpAny (model X.prog X.w) X.A (pyIter (.ref s.heap.objs.size)) (Qa X pins σ tg R) E { s with heap:=s.heap.push { cls:= .type "range",data:= .fields #[.int lo t,.int C u,.int 1 v] },toks:=tk }:=by
 refine wpAny_pyIter_range (IsRange.new ..) (small_one h1 h2 U h4) ?_;have J:Inv X pins σ H { s with heap:=s.heap.push { cls:= .type "range",data:= .fields #[.int lo t,.int C u,.int 1 v] },toks:=tk }:=I.kept λ b o e=>Heap.get?_push_of_some _ e;refine⟨(s.heap.push { cls:= .type "range",data:= .fields #[.int lo t,.int C u,.int 1 v] }).objs.size,[(s.heap.push { cls:= .type "range",data:= .fields #[.int lo t,.int C u,.int 1 v] }).objs.size],_,_,H,rfl,
  J.kept (t':=tk) λ b o e=>Heap.get?_push_of_some _ e,wm _ lo (C-lo).toNat,?_,λ b hb=>?_,q⟩
 .have e1:lo+((0:Nat):Int)*1=lo:=by simp
  have e2:(((C-lo).toNat:Nat):Int) -((0:Nat):Int)=Builtin.Range.rangeSize lo C 1:=by rw[rangeSize_one];omega
  rw[e1,e2];exact Heap.get?_push_size _ rfl
 .have e:b=(s.heap.push { cls:= .type "range",data:= .fields #[.int lo t,.int C u,.int 1 v] }).objs.size:=by simpa using hb
  subst e;exact J.fpOk (Nat.le_refl _) (J.hok.fresh (Nat.le_refl _))
noncomputable def N8(ta:TA):TI:= λ σ H R=>ta σ H λ vs H1=> ∃j:Int,vs=[.int j]/\ -(2^62)<=j/\j<2^62/\R (NV 0 j.toNat) H1
noncomputable def NH(ta:TA):TI:= λ σ H R=>ta σ H λ vs H1=> ∃i j:Int,vs=[.int i,.int j]/\(-(2^62)<=i/\i<2^62/\ -(2^62)<=j/\j<2^62)/\R (NV i (j-i).toNat) H1
theorem yC {a:Expr} {ta:TA} {p pos:Pos} (hg:Gl X "range") (hm:X.mg "range" = none) (ha:PA X [a] ta) (hs:starEach [a] X.env=[(false,eval a X.env)]:=by rfl):PI X tg (.Call (.Name "range" p) [a] [] pos) (N8 ta):= by
 intro pins s σ H R I h
 refine Call_ (i9 I hg hm boot_range (PyProof.Rows.callWith_type1 (c_ (ha pos pins s σ H _ I h) fun us s1 ⟨vs,H1,I1,r1,q1⟩=>?_) hs rfl))
 obtain ⟨j,e,q1,q2,q⟩:=q1
 subst e
 cases r1 with
 | cons r rr=>
  cases rr
  obtain ⟨t,rfl⟩:=r
  exact call_range_1 (uR I1 (by omega) (by omega) q1 q2 (by simpa using q))
theorem y4 {a b:Expr} {ta:TA} {p pos:Pos} (hg:Gl X "range") (hm:X.mg "range" = none) (ha:PA X [a,b] ta) (hs:starEach [a,b] X.env=[(false,eval a X.env),(false,eval b X.env)]:=by rfl) (hs2:starEach [b] X.env=[(false,eval b X.env)]:=by rfl) :
  PI X tg (.Call (.Name "range" p) [a,b] [] pos) (NH ta):= by
 intro pins s σ H R I h
 refine Call_ (i9 I hg hm boot_range (PyProof.Rows.callWith_type1 (c_ (ha pos pins s σ H _ I h) fun us s1 ⟨vs,H1,I1,r1,q1⟩=>?_) (by rw [hs,hs2]) (by rw [hs2];rfl)))
 obtain ⟨i,j,e,⟨q1,q2,q3,q4⟩,q⟩:=q1
 subst e
 cases r1 with
 | cons r rr=>
  cases rr with
  | cons r' rr=>
   cases rr
   obtain ⟨t,rfl⟩:=r
   obtain ⟨t',rfl⟩:=r'
   exact call_range_2 (uR I1 q1 q2 q3 q4 q)
noncomputable def O2(wi:TI)(g:TG)(tb:TS):TS:= λ D σ H=>wi σ H λ J H1=> ∃W:Nat->Nat->St->Hp->Prop,(∃m,W 0 m σ H1)/\ ∀i m σ H,W i m σ H->
 (J.stop i H/\D.nx σ H)\/(J.go i H/\ ∃N:St->Hp->Prop,(∀C H',N C H'-> ∃U,U<m/\W (i+1) U C H')/\ ∀x H',J.yld i H x H'->g x σ H' λ I H2=>tb { D with nx:=N,ct:=N,bk:=D.nx } I H2)
noncomputable def oC(fp:List Addr)(h:Heap):List (Addr×Obj):=fp.filterMap λ b=>(h.get? b).map λ o=>(b,o)
theorem g6{b:Addr}{o:Obj}(C:b∈fp)(e:h.get? b=some o):(b,o)∈oC fp h:=List.mem_filterMap.mpr ⟨b,C,by grind⟩
theorem zo(C:p∈oC fp h):p.1∈fp/\h.get? p.1=some p.2:=by obtain⟨b,I,e⟩:=List.mem_filterMap.mp C;cases q:h.get? b with
 |none=>grind
 |some o=>grind
theorem Inv.pinned{σ:St}{H:Hp}{s:Shared}{fp:List Addr}(I:Inv X pins σ H s)(hf: ∀b∈fp,jA X pins H b)(U: ∀b∈fp,∃o,s.heap.get? b=some o/\ ∀v,o.data≠ .cell v):Inv X (pins++oC fp s.heap) σ H s:=
 I.pins_of λ p C=>(List.mem_append.mp C).elim (λ z=>I.pin p (List.mem_append_right _ z)) λ z=>by obtain⟨J,e⟩:=zo z;obtain⟨f0,f1,f2,_⟩:=hf p.1 J;grind
theorem Inv.unpinned{σ:St}{H:Hp}{s:Shared}(I:Inv X (pins++pl) σ H s):Inv X pins σ H s:=I.pins_of λ p C=>I.pin p (List.mem_append_right _ (List.mem_append_left _ C))
theorem Jj{wi:TI}{g:TG}{tb:TS}{pos:Pos}(hp:PassesOwn (model X.prog X.w) X.A X.env X.xe)(hc:X.calm=true)(hi:PI X tg iter wi)(hg:PG X tg g)(U:oI X body tb)
  (hs: ∀x,foldedSetIterable iter X.env x=pure x:=by intro _;rfl):PS X (.For tg iter body [] pos) (O2 wi g tb):=by
 intro pins s σ H D I h;refine wpAny_For (c_ (hi pins s σ H _ I h) λ v s1 h1=>c_ h1 λ aq s2 h2=>?_) hs;obtain⟨it,fp,tn,J,H2,e,I2,T,ai,f2,W,⟨m0,w0⟩,turn⟩:=h2;subst e
 have aa: ∀{H':Hp},(∀b∈fp,H' b=none)-> ∀b∈fp,jA X pins H' b:= λ hn b U=>⟨hn b U,(f2 b U).2⟩;refine codeAny_forLoop_any (λ n s'=> ∃i ab H',Inv X pins ab H' s'/\tn i s'.heap/\(∀b∈fp,H' b=none)/\W i n ab H') ?_ m0 ⟨0,σ,H2,I2,ai,λ b U=>(f2 b U).1,w0⟩;rintro n s3 ⟨i,ae,H3,I3,ag,ah,w3⟩;rcases turn i n ae H3 w3 with⟨stop,qn⟩|⟨go,N,hN,step⟩
 .refine wpAny_passesOwn hp (c_ (T.done X rfl rfl rfl hc i pins s3 ae H3 X.xe I3 (aa ah) ag stop) λ r s4 ⟨hr,I4⟩=>?_);subst hr;exact wpAny_execs_nil ⟨ae,H3,I4,qn⟩
 .refine wpAny_passesOwn hp (c_ (T.item X rfl rfl rfl hc i pins s3 ae H3 X.xe I3 (aa ah) ag go) λ r s4 ⟨u,hr,h4⟩=>?_);subst hr;refine wpAny_passesOwn hp (c_ h4 λ _ s5 ⟨x,H5,I5,r5,y5,af,aj⟩=>?_);have ak:=I5.pinned (aa aj) (T.obj _ _ af);refine wpAny_passesOwn hp (c_ (hg _ s5 ae H5 x u _ ak r5 (step x H5 y5)) λ _ s6 ⟨ao,H6,I6,q6⟩=>?_);refine wpAny_passesOwn hp (c_ (U _ s6 ao H6 _ I6 q6) λ f s7 q7=>?_);have again: ∀{C:St}{H7:Hp},Inv X (pins++oC fp s5.heap) C H7 s7->N C H7-> ∃m,m<n/\ ∃i ab H',Inv X pins ab H' s7/\tn i s7.heap/\(∀b∈fp,H' b=none)/\W i m ab H':= λ{C H7} I7 n7=>by obtain⟨m',hm,w7⟩:=hN C H7 n7;refine⟨m',hm,i+1,C,H7,I7.unpinned,T.keep _ _ _ af λ b U o e=>(I7.pin (b,o) (List.mem_append_right _ (List.mem_append_right _ (g6 U e)))).1,λ b U=>?_,w7⟩;obtain⟨o,e,d⟩:=T.obj _ _ af b U;exact(I7.pin (b,o) (List.mem_append_right _ (List.mem_append_right _ (g6 U e)))).2.1
  cases f with
  |next=>obtain⟨C,H7,I7,n7⟩:=q7;exact again I7 n7
  |cont=>obtain⟨C,H7,I7,n7⟩:=q7;exact again I7 n7
  |brk=>obtain⟨C,H7,I7,q7⟩:=q7;exact⟨C,H7,I7.unpinned,q7⟩
  |ret v=>obtain⟨x7,C,H7,I7,r7,q7⟩:=q7;exact⟨x7,C,H7,I7.unpinned,r7,q7⟩
end
noncomputable abbrev R2:=V->V->Hp->VK->Prop
noncomputable def gD(X:Cx)(f:Value->Value->Sem Value)(r:R2):Prop:=
 ∀(pins:List (Addr×Obj))(s:Shared)(σ:St)(H:Hp)(x y:V)(v u:Value)(Q:VK),Inv X pins σ H s->RelV x v->RelV y u->r x y H Q->
  wpAny (model X.prog X.w) X.A (f v u) (EP X pins σ Q) X.xe s
noncomputable def Pe(X:Cx)(f:Value->Sem Value)(r:V->Hp->VK->Prop):Prop:=
 ∀(pins:List (Addr×Obj))(s:Shared)(σ:St)(H:Hp)(x:V)(v:Value)(Q:VK),Inv X pins σ H s->RelV x v->r x H Q->
  wpAny (model X.prog X.w) X.A (f v) (EP X pins σ Q) X.xe s
noncomputable def du(X:Cx)(f:Value)(r:List V->Hp->VK->Prop):Prop:=
 ∀(pins:List (Addr×Obj))(s:Shared)(σ:St)(H:Hp)(xs:List V)(us:List Value)(Q:VK),Inv X pins σ H s->Vals xs us->r xs H Q->
  wpAny (model X.prog X.w) X.A (call f us) (EP X pins σ Q) X.xe s
noncomputable def PD(X:Cx)(r:V->Hp->(Bool->Hp->Prop)->Prop):Prop:=
 ∀(pins:List (Addr×Obj))(s:Shared)(σ:St)(H:Hp)(x:V)(v:Value)(Q:Bool->Hp->Prop),Inv X pins σ H s->RelV x v->r x H Q->
  wpAny (model X.prog X.w) X.A (truthy v) (TP X pins σ Q) X.xe s
noncomputable def xu(r:R2)(ta tb:TE):TE:= λ σ H Q=>ta σ H λ x H1=>tb σ H1 λ y H2=>r x y H2 Q
noncomputable def QA(r:V->Hp->VK->Prop)(ta:TE):TE:= λ σ H Q=>ta σ H λ x H1=>r x H1 Q
noncomputable def rI(C:Int->Int->Prop)(g:Int->Int->V):R2:= λ x y H Q=> ∃i j,x= .int i/\y= .int j/\C i j/\Q (g i j) H
noncomputable def vE(g:Int->Int->V):R2:= λ x y H Q=> ∃i j,x= .int i/\y= .int j/\Q (g i j) H
noncomputable def rU(g:Int->V):V->Hp->VK->Prop:= λ x H Q=> ∃i,x= .int i/\Q (g i) H
section
variable {X:Cx} {a b:Expr} {ta tb:TE} {pos:Pos}
theorem Ky(U:PE X a ta)(hb:PE X b tb){pins:List (Addr×Obj)}{s:Shared}{σ:St}{H:Hp}{R:V->V->Hp->Prop}(I:Inv X pins σ H s)
  (h:ta σ H λ x H1=>tb σ H1 λ y H2=>R x y H2){Q:Value->Shared->Prop}{f:Value->Value->Sem Value}
  (hf: ∀v u s2 x y H2,Inv X pins σ H2 s2->RelV x v->RelV y u->R x y H2->wpAny (model X.prog X.w) X.A (f v u) Q X.xe s2):
  wpAny (model X.prog X.w) X.A (eval a X.env) (λ v C=>wpAny (model X.prog X.w) X.A (eval b X.env) (λ u J=>wpAny (model X.prog X.w) X.A (f v u) Q X.xe J) X.xe C) X.xe s:=by refine c_ (U pins s σ H _ I h) λ v s1 ⟨x,H1,I1,r1,q1⟩=>?_;refine c_ (hb pins s1 σ H1 _ I1 q1) λ u s2 ⟨y,H2,I2,r2,q2⟩=>?_;grind
theorem t_(C:gD X (binaryOp op) r)(J:PE X a ta)(U:PE X b tb):PE X (.BinOp a op b pos) (xu r ta tb):=by intro pins s σ H Q I h;exact wpAny_BinOp (Ky J U I h λ v u s2 x y H2 I2 rx ry q=>C pins s2 σ H2 x y v u Q I2 rx ry q)
theorem Og(C:Pe X (unaryOp op) r)(J:PE X a ta):PE X (.UnaryOp op a pos) (QA r ta):=by intro pins s σ H Q I h;exact UnaryOp_ (c_ (J pins s σ H _ I h) λ v s1 ⟨x,H1,U,r1,q1⟩=>C pins s1 σ H1 x v Q U r1 q1)
theorem MX{C:Int->Int->Prop}{g:Int->Int->Int}
  (rule: ∀(i j:Int)(t u:Tok)(s:Shared)(Q:Value->Shared->Prop)(E:Value->Shared->Prop),C i j->Q (.int (g i j) s.toks) { s with toks:=s.toks+1 }->wpAny (model X.prog X.w) X.A (f (.int i t) (.int j u)) Q E s):
  gD X f (rI C λ i j=> .int (g i j)):=by intro pins s σ H x y v u Q I J U h;obtain⟨i,j,rfl,rfl,hc,q⟩:=h;obtain⟨t,rfl⟩:=J;obtain⟨t',rfl⟩:=U;exact rule i j t t' s _ _ hc ⟨.int (g i j),H,I.tok _,⟨_,rfl⟩,q⟩
theorem M4{g:Int->Int->Int}
  (rule: ∀(i j:Int)(t u:Tok)(s:Shared)(Q:Value->Shared->Prop)(E:Value->Shared->Prop),Q (.int (g i j) s.toks) { s with toks:=s.toks+1 }->wpAny (model X.prog X.w) X.A (f (.int i t) (.int j u)) Q E s):
  gD X f (vE λ i j=> .int (g i j)):=by intro pins s σ H x y v u Q I C J h;obtain⟨i,j,rfl,rfl,q⟩:=h;obtain⟨t,rfl⟩:=C;obtain⟨t',rfl⟩:=J;exact rule i j t t' s _ _ ⟨.int (g i j),H,I.tok _,⟨_,rfl⟩,q⟩
theorem KR{g:Int->Int->Bool}
  (rule: ∀(i j:Int)(t u:Tok)(s:Shared)(Q:Value->Shared->Prop)(E:Value->Shared->Prop),Q (.bool (g i j)) s->wpAny (model X.prog X.w) X.A (f (.int i t) (.int j u)) Q E s):
  gD X f (vE λ i j=> .bl (g i j)):=by intro pins s σ H x y v u Q I C J h;obtain⟨i,j,rfl,rfl,q⟩:=h;obtain⟨t,rfl⟩:=C;obtain⟨t',rfl⟩:=J;exact rule i j t t' s _ _ ⟨.bl (g i j),H,I,rfl,q⟩
noncomputable def Ja(i j:Int):Prop:=0<j/\j<1073741824
noncomputable def O5(i j:Int):Prop:=0<=j/\j<=1000000/\i.natAbs<2^64
noncomputable def JW(i j:Int):Prop:=(-(2^64)<i/\i<2^64)\/(-(2^64)<j/\j<2^64)
theorem JW.ok(h:JW i j):IntMulOk i j:=by
 rcases h with⟨h1,h2⟩|⟨h1,h2⟩
 .exact .of_left (intBits_le_64 h1 h2)
 .exact .of_right (intBits_le_64 h1 h2)
theorem Ks:gD X (binaryOp .Add) (vE fun i j=>.int (i + j)):=M4 fun _ _ _ _ _ _ _ q=>add_int q
theorem JC:gD X (binaryOp .Sub) (vE fun i j=>.int (i - j)):=M4 fun _ _ _ _ _ _ _ q=>sub_int q
theorem J6:gD X (binaryOp .Mult) (rI JW fun i j=>.int (i * j)):=MX fun _ _ _ _ _ _ _ hc q=>mul_int q hc.ok
theorem EU:gD X (binaryOp .FloorDiv) (rI Ja fun i j=>.int (i / j)):=MX fun i j _ _ _ _ _ hc q=>by
 have h1:(0:Int) < j:=hc.1
 have h2:j < 1073741824:=hc.2
 exact floordiv_int (by omega) (by grind) (.inl (PyProof.noPylong_small (by omega)))
theorem La:gD X (binaryOp .Mod) (rI (fun _ j=>0 < j) fun i j=>.int (i % j)):=MX fun i j _ _ _ _ _ hc q=>by
 have h1:(0:Int) < j:=hc
 exact mod_int' (by omega) (by grind)
theorem LA:gD X (binaryOp .Pow) (rI O5 fun i j=>.int (i ^ j.toNat)):=MX fun _ _ _ _ _ _ _ hc q=>pow_int_small hc.1 hc.2.1 hc.2.2 q
theorem Ql{g:Int->Int}
  (rule: ∀(i:Int)(t:Tok)(s:Shared)(Q:Value->Shared->Prop)(E:Value->Shared->Prop),Q (.int (g i) s.toks) { s with toks:=s.toks+1 }->wpAny (model X.prog X.w) X.A (f (.int i t)) Q E s):
  Pe X f (rU λ i=> .int (g i)):=by intro pins s σ H x v Q I C h;obtain⟨i,rfl,q⟩:=h;obtain⟨t,rfl⟩:=C;exact rule i t s _ _ ⟨.int (g i),H,I.tok _,⟨_,rfl⟩,q⟩
theorem K4:Pe X (unaryOp .USub) (rU fun i=>.int (-i)):=Ql fun _ _ _ _ _ q=>neg_int q
end
noncomputable def ke:V->V->Bool
 | .non,.non=>true| .non,.int _=>true| .int _,.non=>true| .non,.bl _=>true| .bl _,.non=>true| .non,.str _=>true| .str _,.non=>true
 | .int _,.int _=>true| .bl _,.bl _=>true| .str _,.str _=>true| .byt _,.byt _=>true
 | .int _,.str _=>true| .str _,.int _=>true| .bl _,.str _=>true| .str _,.bl _=>true
 |_,_=>false
noncomputable def P4:R2:= λ x y H Q=>ke x y=true/\Q (.bl (decide (x=y))) H
noncomputable def ND:R2:= λ x y H Q=>ke x y=true/\Q (.bl (!decide (x=y))) H
theorem xD:decide (V.int i=V.int j)=(i==j):=by grind
theorem C9:decide (V.bl i=V.bl j)=(i==j):=by grind
theorem w4:decide (V.str i=V.str j)=(i==j):=by grind
theorem xJ:decide (V.byt i=V.byt j)=(i.toList==j.toList):=by rw[Bool.eq_iff_iff];simp
section
variable {X:Cx} {a b c:Expr} {ta tb tc:TE} {pos:Pos}
theorem cf{σ:St}{H:Hp}{s:Shared}{Q:VK}{k C:Bool}(I:Inv X pins σ H s)(q:Q (.bl k) H)(e:k=C):EP X pins σ Q (.bool C) s:=by subst e;exact⟨.bl k,H,I,rfl,q⟩
theorem CU:gD X (compareOp .Eq) P4:= by
 intro pins s σ H x y v u Q I rx ry h
 obtain ⟨hs,q⟩:=h
 cases x with
 | non=>
  cases rx
  cases y with
  | non=>cases ry;exact PySem.EqNone.eq_none_none (cf I q (by simp))
  | bl j=>cases ry;exact PySem.EqNone.eq_none_bool (cf I q (by simp))
  | int j=>obtain ⟨t',rfl⟩:=ry;exact PySem.EqNone.eq_none_int (cf I q (by simp))
  | str j=>obtain ⟨t',rfl⟩:=ry;exact PySem.EqNone.eq_none_str (cf I q (by simp))
  | _=>exact absurd (show false=true from hs) Bool.false_ne_true
 | bl i=>
  cases rx
  cases y with
  | non=>cases ry;exact PySem.EqNone.eq_bool_none (cf I q (by simp))
  | bl j=>cases ry;exact eq_bool (cf I q C9)
  | str j=>obtain ⟨t',rfl⟩:=ry;exact PySem.EqMixed.eq_bool_str (cf I q (by simp))
  | _=>exact absurd (show false=true from hs) Bool.false_ne_true
 | int i=>
  obtain ⟨t,rfl⟩:=rx
  cases y with
  | non=>cases ry;exact PySem.EqNone.eq_int_none (cf I q (by simp))
  | int j=>obtain ⟨t',rfl⟩:=ry;exact eq_int (cf I q xD)
  | str j=>obtain ⟨t',rfl⟩:=ry;exact PySem.EqMixed.eq_int_str (cf I q (by simp))
  | _=>exact absurd (show false=true from hs) Bool.false_ne_true
 | str i=>
  obtain ⟨t,rfl⟩:=rx
  cases y with
  | non=>cases ry;exact PySem.EqNone.eq_str_none (cf I q (by simp))
  | bl j=>cases ry;exact PySem.EqMixed.eq_str_bool (cf I q (by simp))
  | int j=>obtain ⟨t',rfl⟩:=ry;exact PySem.EqMixed.eq_str_int (cf I q (by simp))
  | str j=>obtain ⟨t',rfl⟩:=ry;exact eq_str (cf I q w4)
  | _=>exact absurd (show false=true from hs) Bool.false_ne_true
 | byt i=>
  obtain ⟨t,rfl⟩:=rx
  cases y with
  | byt j=>obtain ⟨t',rfl⟩:=ry;exact PySem.W.eq_bytes (cf I q xJ)
  | _=>exact absurd (show false=true from hs) Bool.false_ne_true
 | _=>cases y <;> exact absurd (show false=true from hs) Bool.false_ne_true
theorem B8:gD X (compareOp .NotEq) ND:= by
 intro pins s σ H x y v u Q I rx ry h
 obtain ⟨hs,q⟩:=h
 cases x with
 | non=>
  cases rx
  cases y with
  | non=>cases ry;exact PySem.EqNone.ne_none_none (cf I q (by simp))
  | bl j=>cases ry;exact PySem.EqNone.ne_none_bool (cf I q (by simp))
  | int j=>obtain ⟨t',rfl⟩:=ry;exact PySem.EqNone.ne_none_int (cf I q (by simp))
  | str j=>obtain ⟨t',rfl⟩:=ry;exact PySem.EqNone.ne_none_str (cf I q (by simp))
  | _=>exact absurd (show false=true from hs) Bool.false_ne_true
 | bl i=>
  cases rx
  cases y with
  | non=>cases ry;exact PySem.EqNone.ne_bool_none (cf I q (by simp))
  | bl j=>cases ry;exact ne_bool (cf I q (congrArg not C9))
  | str j=>obtain ⟨t',rfl⟩:=ry;exact PySem.EqMixed.ne_bool_str (cf I q (by simp))
  | _=>exact absurd (show false=true from hs) Bool.false_ne_true
 | int i=>
  obtain ⟨t,rfl⟩:=rx
  cases y with
  | non=>cases ry;exact PySem.EqNone.ne_int_none (cf I q (by simp))
  | int j=>obtain ⟨t',rfl⟩:=ry;exact ne_int (cf I q (congrArg not xD))
  | str j=>obtain ⟨t',rfl⟩:=ry;exact PySem.EqMixed.ne_int_str (cf I q (by simp))
  | _=>exact absurd (show false=true from hs) Bool.false_ne_true
 | str i=>
  obtain ⟨t,rfl⟩:=rx
  cases y with
  | non=>cases ry;exact PySem.EqNone.ne_str_none (cf I q (by simp))
  | bl j=>cases ry;exact PySem.EqMixed.ne_str_bool (cf I q (by simp))
  | int j=>obtain ⟨t',rfl⟩:=ry;exact PySem.EqMixed.ne_str_int (cf I q (by simp))
  | str j=>obtain ⟨t',rfl⟩:=ry;exact ne_str (cf I q (congrArg not w4))
  | _=>exact absurd (show false=true from hs) Bool.false_ne_true
 | byt i=>
  obtain ⟨t,rfl⟩:=rx
  cases y with
  | byt j=>obtain ⟨t',rfl⟩:=ry;exact PySem.W.ne_bytes (cf I q (congrArg not xJ))
  | _=>exact absurd (show false=true from hs) Bool.false_ne_true
 | _=>cases y <;> exact absurd (show false=true from hs) Bool.false_ne_true
theorem nU:gD X (compareOp .Lt) (vE fun i j=>.bl (decide (i < j))):=KR fun _ _ _ _ _ _ _ q=>lt_int q
theorem B5:gD X (compareOp .LtE) (vE fun i j=>.bl (decide (i ≤ j))):=KR fun _ _ _ _ _ _ _ q=>le_int q
theorem Ik:gD X (compareOp .Gt) (vE fun i j=>.bl (decide (j < i))):=KR fun _ _ _ _ _ _ _ q=>gt_int q
theorem G8:gD X (compareOp .IsNot) (λ x y H Q=>y= .non/\Q (.bl (!decide (x= .non))) H):=by intro pins s σ H x y v u Q I C J h;obtain⟨rfl,q⟩:=h;cases J;refine isnot_none_gen (cf I q ?_);cases x <;> first
  |rfl
  |(obtain⟨t,rfl⟩:=C;rfl)
theorem vv(b:Expr){op:CmpOp}(h:op≠ .In:=by decide)(h2:op≠ .NotIn:=by decide):behindInMarks op b=false:=by
 have C:(op==CmpOp.In)=false:=by simp_all
 have I:(op==CmpOp.NotIn)=false:=by simp_all
 cases b <;> simp[behindInMarks,C,I]
theorem FV(C:gD X (compareOp op) r)(J:PE X a ta)(U:PE X b tb)(hm:behindInMarks op b=false):PE X (.Compare a [op] [b] pos) (xu r ta tb):=by intro pins s σ H Q I h;exact wpAny_Compare1 (Ky J U I h λ v u s2 x y H2 I2 rx ry q=>C pins s2 σ H2 x y v u Q I2 rx ry q) hm
noncomputable def uZ(t:TE):TT:= λ σ H Q=>t σ H λ x H'=> ∃k,x= .bl k/\Q k H'
theorem q0(C:gD X (compareOp op) r)(J:PE X a ta)(U:PE X b tb)(hm:behindInMarks op b=false):PT X (.Compare a [op] [b] pos) (uZ (xu r ta tb)):=by
 intro pins s σ H Q I h;refine wpAny_isTrue_Compare1 (c_ (J pins s σ H _ I h) λ v s1 ⟨x,H1,I1,r1,q1⟩=>c_ (U pins s1 σ H1 _ I1 q1) λ u s2 ⟨y,H2,I2,r2,q2⟩=>
  c_ (C pins s2 σ H2 x y v u _ I2 r1 r2 q2) λ c s3 ⟨z,H3,I3,r3,k,e,q3⟩=>?_) hm;subst e;cases r3;exact wpAny_truthy_bool ⟨H3,I3,q3⟩
noncomputable def wQ(r I:R2)(ta tb tc:TE):TE:= λ σ H Q=>ta σ H λ x H1=>tb σ H1 λ y H2=>r x y H2 λ z C=> ∃k,z= .bl k/\
 (if k=true then tc σ C λ J U=>I y J U Q else Q (.bl false) C)
theorem Au{r U:R2}(ho:gD X (compareOp op) r)(J:gD X (compareOp C) U)(ha:PE X a ta)(hb:PE X b tb)(hc:PE X c tc)
  (hm:lastMarks [op,C] [b,c]=false:=by with_unfolding_all rfl):PE X (.Compare a [op,C] [b,c] pos) (wQ r U ta tb tc):=by
 intro pins s σ H Q I h;refine Compare_chain (c_ (ha pins s σ H _ I h) λ v s1 ⟨x,H1,I1,r1,q1⟩=>chain_link (c_ (hb pins s1 σ H1 _ I1 q1) λ u s2 ⟨y,H2,I2,r2,q2⟩=>
  c_ (ho pins s2 σ H2 x y v u _ I2 r1 r2 q2) λ d s3 ⟨z,H3,I3,r3,k,e,q3⟩=>?_)) hm;subst e;cases r3;refine wpAny_truthy_bool ?_;cases k with
 |false=>exact ite_ff ⟨.bl false,H3,I3,rfl,q3⟩
 |true=>exact ite_tt (chain_last (c_ (hc pins s3 σ H3 _ I3 q3) λ w' s4 ⟨z',H4,I4,r4,q4⟩=>J pins s4 σ H4 y z' u w' Q I4 r2 r4 q4))
theorem BO{r U:R2}(ho:gD X (compareOp op) r)(J:gD X (compareOp C) U)(ha:PE X a ta)(hb:PE X b tb)(hc:PE X c tc)
  (hm:lastMarks [op,C] [b,c]=false:=by with_unfolding_all rfl):PT X (.Compare a [op,C] [b,c] pos) (uZ (wQ r U ta tb tc)):=by
 intro pins s σ H Q I h;refine isTrue_chain (c_ (ha pins s σ H _ I h) λ v s1 ⟨x,H1,I1,r1,q1⟩=>test_link (c_ (hb pins s1 σ H1 _ I1 q1) λ u s2 ⟨y,H2,I2,r2,q2⟩=>
  c_ (ho pins s2 σ H2 x y v u _ I2 r1 r2 q2) λ d s3 ⟨z,H3,I3,r3,k,e,q3⟩=>?_)) hm;subst e;cases r3;refine wpAny_truthy_bool ?_;cases k with
 |false=>obtain⟨k',e',q'⟩:=q3;cases e';exact ite_ff ⟨H3,I3,q'⟩
 |true=>refine ite_tt (test_last (c_ (hc pins s3 σ H3 _ I3 q3) λ w' s4 ⟨z',H4,I4,r4,q4⟩=>c_ (J pins s4 σ H4 y z' u w' _ I4 r2 r4 q4) λ d' s5 ⟨z2,H5,I5,r5,k2,e2,q5⟩=>?_));subst e2;cases r5;exact wpAny_truthy_bool ⟨H5,I5,q5⟩
noncomputable def E_(K:PySem.W.Frag)(x:V)(H:Hp)(k:Bool):Prop:=
 match x with
 | .non=>k=false
 | .bl b=>k=b
 | .int i=>k=(i !=0)
 | .str y=>y.length<=sizeLine/\k=((y.length:Int)!=0)
 | .byt y=>y.size<=sizeLine/\k=((y.size:Int)!=0)
 | .ref p=>(∃xs,jr K H p xs/\k= !xs.isEmpty)\/(∃xs,gm K H p xs/\k= !xs.isEmpty)\/ ∃kvs,H p=some (.dK kvs)/\k= !kvs.isEmpty
 |_=>False
theorem vO(r:KV kvs vs):(!vs.isEmpty)= !kvs.isEmpty:=by cases r <;> rfl
theorem oo(r:Vals xs its):(!its.toArray.isEmpty)= !xs.isEmpty:=by cases r <;> simp
theorem kF:sizeLine<2^63:=by decide
theorem KU:PD X (fun x H Q=>∃ k,E_ X.K x H k∧Q k H):= by
 intro pins s σ H x v Q I rx h
 obtain ⟨k,e,q⟩:=h
 have hl:=kF
 have hs:sizeLine=16777216:=sizeLine_eq
 cases x with
 | non=>
  cases rx
  have e':k=false:=e
  subst e'
  exact truthy_none ⟨H,I,q⟩
 | bl b=>
  cases rx
  have e':k=b:=e
  subst e'
  exact wpAny_truthy_bool ⟨H,I,q⟩
 | int i=>
  obtain ⟨t,rfl⟩:=rx
  have e':k=(i != 0):=e
  subst e'
  exact PySem.P.truthy_int ⟨H,I,q⟩
 | str y=>
  obtain ⟨t,rfl⟩:=rx
  obtain ⟨hy,e'⟩:y.length ≤ sizeLine∧k=((y.length:Int) != 0):=e
  subst e'
  exact PySem.P.truthy_str (by omega) ⟨H,I.tok _,q⟩
 | byt y=>
  obtain ⟨t,rfl⟩:=rx
  obtain ⟨hy,e'⟩:y.size ≤ sizeLine∧k=((y.size:Int) != 0):=e
  subst e'
  exact PySem.W.truthy_bytes (by omega) ⟨H,I.tok _,q⟩
 | ref p=>
  cases rx
  have e':(∃ xs,jr X.K H p xs∧k = !xs.isEmpty) ∨ (∃ xs,gm X.K H p xs∧k = !xs.isEmpty) ∨ ∃ kvs,H p=some (.dK kvs)∧k = !kvs.isEmpty:=e
  rcases e' with ⟨xs,hx,e'⟩ | ⟨xs,hx,e'⟩ | ⟨kvs,hx,e'⟩
  .subst e'
   obtain ⟨its,r,pl,hz⟩:=I.list hx
   have hlen:=r.length
   exact wpAny_truthy_list pl.isList (by simp only [List.size_toArray];omega) ⟨H,I.tok _,by rw [oo r];exact q⟩
  .subst e'
   obtain ⟨its,r,pl,hz⟩:=I.tuple hx
   have hlen:=r.length
   exact truthy_tuple pl (by simp only [List.size_toArray];omega) ⟨H,I.tok _,by rw [oo r];exact q⟩
  .subst e'
   obtain ⟨hz,hS,vs,r,m⟩:kvs.length ≤ sizeLine∧(p == sysModules)=false∧∃ vs,KV kvs vs∧s.heap.DictOf (qU X.prog X.w) p vs:=I.hok p _ hx
   have hlen:kvs.length=vs.length:=Paired.length r
   exact wpAny_truthy_dict hS m (by omega) ⟨H,I.tok _,by rw [vO r];exact q⟩
 | _=>exact (show False from e).elim
theorem uI(C:PE X a ta)(he: ∀whole,isTrue a X.env whole=(do let v<- whole;standAt a.pos;holding [v] (truthy v))):
  PT X a (λ σ H Q=>ta σ H λ x H'=> ∃k,E_ X.K x H' k/\Q k H'):=by intro pins s σ H Q I h;exact isTrue_plain (c_ (C pins s σ H _ I h) λ v s1 ⟨x,H1,J,U,q1⟩=>KU pins s1 σ H1 x v Q J U q1) (he _)
theorem vals1(r:Vals [x] us): ∃u,us=[u]/\RelV x u:=by cases r with
 |cons I C=>cases C;grind
theorem vals2(r:Vals [x,y] us): ∃u C,us=[u,C]/\RelV x u/\RelV y C:=by cases r with
 |cons U I=>cases I with
  |cons r3 J=>cases J;grind
theorem zh(J:X.calm=true):du X (.builtin "max") (λ xs H Q=> ∃i j,xs=[.int i,.int j]/\Q (.int (if j>i then j else i)) H):=by
 intro pins s σ H xs us Q I r h;obtain⟨i,j,rfl,q⟩:=h;obtain⟨u,U,rfl,⟨t,rfl⟩,⟨t',rfl⟩⟩:=vals2 r;refine max_two_ints (I.ok.hd J) λ h' tk k=>⟨_,H,I.kept k,?_,q⟩;by_cases C:j>i;. rw[if_pos C,if_pos C];exact⟨_,rfl⟩
 .rw[if_neg C,if_neg C];exact⟨_,rfl⟩
theorem yQ(J:X.calm=true):du X (.builtin "min") (λ xs H Q=> ∃i j,xs=[.int i,.int j]/\Q (.int (if j<i then j else i)) H):=by
 intro pins s σ H xs us Q I r h;obtain⟨i,j,rfl,q⟩:=h;obtain⟨u,U,rfl,⟨t,rfl⟩,⟨t',rfl⟩⟩:=vals2 r;refine min_two_ints (I.ok.hd J) λ h' tk k=>⟨_,H,I.kept k,?_,q⟩;by_cases C:j<i;. rw[if_pos C,if_pos C];exact⟨_,rfl⟩
 .rw[if_neg C,if_neg C];exact⟨_,rfl⟩
theorem zU:du X (.type "int") (λ xs H Q=>(∃i,xs=[.int i]/\Q (.int i) H)\/ ∃k,xs=[.bl k]/\Q (.int (if k then 1 else 0)) H):=by
 intro pins s σ H xs us Q I r h;rcases h with⟨i,rfl,q⟩|⟨k,rfl,q⟩
 .obtain⟨u,rfl,t,rfl⟩:=vals1 r;exact call_int_int ⟨.int i,H,I,⟨_,rfl⟩,q⟩
 .obtain⟨u,rfl,C⟩:=vals1 r;cases C;exact call_int_bool ⟨.int (if k then 1 else 0),H,I.tok _,⟨_,rfl⟩,q⟩
theorem u9:du X (.builtin "divmod") (λ xs H Q=> ∃i j,xs=[.int i,.int j]/\Ja i j/\ ∀p,H p=none->Q (.ref p) (upd H p (.tup [.int (i/j),.int (i%j)]))):=by intro pins s σ H xs us Q I r h;obtain⟨i,j,rfl,⟨h1,h2⟩,q⟩:=h;obtain⟨u,J,rfl,⟨t,rfl⟩,⟨t',rfl⟩⟩:=vals2 r;refine divmod_int (by omega) ?_ (.inl (PyProof.noPylong_small (by omega)));rw[Int.fdiv_eq_ediv_of_nonneg i (by omega),Int.fmod_eq_emod_of_nonneg i (by omega)];have C:H s.heap.objs.size=none:=I.hok.fresh (Nat.le_refl _);refine⟨.ref s.heap.objs.size,_,?_,rfl,q _ C⟩;refine I.laid (λ b o e=>Heap.get?_push_of_some _ e) (Nat.le_refl _) ⟨by simp;decide,[.int (i/j) s.toks,.int (i%j) (s.toks+1)],.cons ⟨_,rfl⟩ (.cons ⟨_,rfl⟩ .nil),?_⟩;exact⟨⟨_,Heap.get?_push_size s.heap rfl,rfl,0,rfl⟩,_,Heap.get?_push_size s.heap rfl,rfl⟩
end
structure Mq (K:PySem.W.Frag) (C:Addr) (f:Str) (v:V) (u:Value):Prop where
 at_:PySem.W.findIn K (.ref C) f=some (some u)
 rel:RelV v u
 get:PySem.W.specialIn K u "__get__" = some none
 cp:PySem.W.copiedNames.contains f=false
structure cX (k:Nat) (A:Around):Prop where
 hd:A.handled=none
 dp:A.depth + 3 * k + 5 < recursionLimit
 un:A.units + 16 * k + 200 < cLine
 gd:A.guards=some []
theorem cX.mono{j k:Nat}{A:Around}(r:cX k A)(h:j<=k):cX j A:=⟨r.hd,by have:=r.dp;omega,by have:=r.un;omega,r.gd⟩
theorem cX.deeper(r:cX (k+1) A)(env:Env):cX k (A.deeper env):=
 ⟨r.hd,by have:=r.dp;show A.depth+1+3*k+5<_;omega,by have:=r.un;show A.units+3+16*k+200<_;omega,r.gd⟩
theorem cX.depth(r:cX k A):A.depth<recursionLimit:=by have:=r.dp;omega
noncomputable def wX:TA:= λ _ H Q=>Q [] H
noncomputable def d7(ta:TE)(I:TA):TA:= λ σ H Q=>ta σ H λ x H1=>I σ H1 λ xs H2=>Q (x::xs) H2
section
variable {X:Cx} {e:Expr} {es:List Expr} {te:TE} {t:TA} {pos:Pos}
theorem da:PA X [] wX:= λ _ _ _ _ H Q I h=>Calls.spliced_nil ⟨[],H,I,.nil,h⟩
theorem bu(J:PE X e te)(U:PA X es t)(hs:starEach (e::es) X.env=(false,eval e X.env)::starEach es X.env:=by rfl):PA X (e::es) (d7 te t):=by intro pos pins s σ H Q I h;rw[hs];show wpAny _ _ (spliced ((false,eval e X.env)::backTo pos (starEach es X.env))) _ _ s;refine Calls.spliced_cons (c_ (J pins s σ H _ I h) λ u s1 ⟨x,H1,I1,r1,q1⟩=>?_);exact c_ (U pos pins s1 σ H1 _ I1 q1) λ us s2 ⟨xs,H2,I2,r2,q2⟩=>⟨x::xs,H2,I2,.cons r1 r2,q2⟩
noncomputable def PL(t:TA):TE:= λ σ H Q=>t σ H λ xs H1=>xs.length<=sizeLine/\ ∀p,H1 p=none->Q (.ref p) (upd H1 p (.tup xs))
noncomputable def Gj(t:TA):TE:= λ σ H Q=>t σ H λ xs H1=>xs.length<=sizeLine/\ ∀p,H1 p=none->Q (.ref p) (upd H1 p (.lst xs))
theorem Jy(h:PA X es t):PE X (.Tuple es x1 pos) (PL t):=by intro pins s σ H Q I U;refine wpAny_Tuple_spliced (c_ (h pos pins s σ H _ I U) λ us s1 ⟨xs,H1,J,r,z,q⟩=>⟨by rw[<- r.length];exact z,?_⟩);have hf:H1 s1.heap.objs.size=none:=J.hok.fresh (Nat.le_refl _);refine⟨.ref s1.heap.objs.size,upd H1 s1.heap.objs.size (.tup xs),J.laid (t':=s1.toks) (λ b u e=>Heap.get?_push_of_some _ e) (Nat.le_refl _) ?_,rfl,q _ hf⟩;exact⟨z,us,r,⟨_,Heap.get?_push_size _ rfl,rfl,_,rfl⟩,_,Heap.get?_push_size _ rfl,rfl⟩
theorem kM(h:PA X es t):PE X (.List es pos) (Gj t):=by intro pins s σ H Q I U;refine wpAny_List_spliced (c_ (h pos pins s σ H _ I U) λ us s1 ⟨xs,H1,J,r,z,q⟩=>⟨by rw[<- r.length];exact z,?_⟩);have hf:H1 s1.heap.objs.size=none:=J.hok.fresh (Nat.le_refl _);refine⟨.ref s1.heap.objs.size,upd H1 s1.heap.objs.size (.lst xs),J.laid (t':=s1.toks) (λ b u e=>Heap.get?_push_of_some _ e) (Nat.le_refl _) ?_,rfl,q _ hf⟩;exact⟨z,us,0,r,Heap.get?_push_size _ rfl⟩
end
noncomputable abbrev Sp:=List V->Hp->VK->XK->Prop
noncomputable abbrev zY:=List Env->Hp->Shared->XK->Value->Shared->Prop
structure zx (P:Program) (w:World) (K:PySem.W.Frag) (mg:Str->Option Value) (base:Heap) (A:Around) (outer:List Env) (s:Shared) (H:Hp):Prop where
 frames:A.frames=some outer
 mod:Mod K mg base
 bs:∀ b o,base.get? b=some o->s.heap.get? b=some o∧H b=none
 bsz:base.objs.size ≤ s.heap.objs.size
 funs:s.heap.FunFrames base outer
 frf:∀ b ∈ iR outer,H b=none
 hok:lh P w H s.heap
 bare:AllBare s.gens
 tb:yG K H
noncomputable def CE(outer:List Env)(P:Program)(w:World)(H:Hp)(s:Shared)(Q:VK)(u:Value)(s':Shared):Prop:=
 ∃v H',s'.os=s.os/\AllBare s'.gens/\Un (iR outer) [] H H' s.heap s'.heap/\lh P w H' s'.heap/\RelV v u/\Q v H'
noncomputable def CR(CX:zY)(outer:List Env)(P:Program)(w:World)(H:Hp)(s:Shared)(Q:VK)(E:XK)(r:Result)(s':Shared):Prop:=
 match r with
 | .ok (.ret u)=>CE outer P w H s Q u s'
 | .ok _=>False
 | .error e=>CX outer H s E e s'
structure eD (P:Program) (w:World) (K:PySem.W.Frag) (mg:Str->Option Value) (base:Heap) (CX:zY) (k:Nat) (f:Addr) (fd:FuncData) (ps:List Str) (sp:Sp):Prop where
 len:∀ vs H Q E,sp vs H Q E->vs.length=ps.length
 run:∀ (A:Around) (outer:List Env) (s:Shared) (H:Hp) (args:Args) (us:List Value) (vs:List V) (Q:VK) (E:XK),cX k A->zx P w K mg base A outer s H->BindsTo s fd args (ps.zip us)->Vals vs us->sp vs H Q E ->
  codeAny (model P w) A (.call (.ref f) args) (CR CX outer P w H s Q E) s
theorem eD.mono{K:PySem.W.Frag}{I:Str->Option Value}{base:Heap}{CX:zY}{j k:Nat}{f:Addr}{fd:FuncData}{ps:List Str}{sp:Sp}(F:eD P w K I base CX j f fd ps sp)(h:j<=k):
  eD P w K I base CX k f fd ps sp:=⟨F.len,λ A outer s H args us vs Q E J=>F.run A outer s H args us vs Q E (J.mono h)⟩
theorem eD.imp{K:PySem.W.Frag}{J:Str->Option Value}{base:Heap}{CX:zY}{k:Nat}{f:Addr}{fd:FuncData}{ps:List Str}{sp I:Sp}(F:eD P w K J base CX k f fd ps sp)
  (h: ∀vs H Q E,I vs H Q E->sp vs H Q E):eD P w K J base CX k f fd ps I:=
 ⟨λ vs H Q E q=>F.len vs H Q E (h _ _ _ _ q),λ A outer s H args us vs Q E U he hb hv hs=>F.run A outer s H args us vs Q E U he hb hv (h _ _ _ _ hs)⟩
section
variable {X:Cx} {pins:List (Addr × Obj)} {σ:St} {H:Hp} {s s':Shared}
theorem Inv.env0(I:Inv X pins σ H s):zx X.prog X.w X.K X.mg X.base X.A X.stack s H:=
 ⟨I.ok.frames,I.ok.mod,I.bs,Nat.le_trans I.ok.bsz I.sz,I.stack,I.stkFree,I.hok,I.bare,I.tb⟩
theorem Inv.after(I:Inv X pins σ H s)(h:CE X.stack X.prog X.w H s Q u s'):EP X pins σ Q u s':=by obtain⟨v,H',os,bare,un,J,r,q⟩:=h;obtain⟨hh,g,d,t,U⟩:=s';obtain rfl:U=s.os:=os;exact⟨v,H',I.call (h':=hh) (g':=g) (d':=d) (t':=t) (ch:=[]) un J bare (λ b z=>absurd z (by simp)),r,q⟩
end
noncomputable def Mm(sp:Sp)(I:List V)(E:XK)(t:TA):TE:= λ σ H Q=>t σ H λ vs H1=>sp (vs++I) H1 Q E
noncomputable def Binds(K:PySem.W.Frag)(fd:FuncData)(ps:List Str)(ds:List Value):Prop:=
 ∀(s:Shared)(us:List Value),K.In s.heap->(us++ds).length=ps.length->BindsTo s fd ⟨us,[]⟩ (ps.zip (us++ds))
theorem Binds.all{K:PySem.W.Frag}{fd:FuncData}{ps:List Str}(h: ∀us:List Value,us.length=ps.length->bindArgs fd ⟨us,[]⟩=pure (ps.zip us)):Binds K fd ps []:= λ s us _ I=>by rw[List.append_nil]at I|-;exact .of_eq (h us I)
noncomputable def Passes(CX:zY)(X:Cx)(E:XK):Prop:= ∀(pins:List (Addr×Obj))(σ:St)(H:Hp)(s:Shared)(e:Value)(s':Shared),Inv X pins σ H s->CX X.stack H s E e s'->X.xe e s'
section
variable {X:Cx} {CX:zY} {k:Nat} {f C:Addr} {fd:FuncData} {ps:List Str} {sp:Sp} {dvs:List V} {ds:List Value} {E:XK} {x:Str} {p pos:Pos} {e:Expr} {es:List Expr} {t:TA}
theorem IZ{σ:St}{H:Hp}{s:Shared}{Q:VK}{us:List Value}{vs:List V}(F:eD X.prog X.w X.K X.mg X.base CX k f fd ps sp)(hr:cX k X.A)(hb:Binds X.K fd ps ds)(hd:Vals dvs ds)(hx:Passes CX X E)
  (I:Inv X pins σ H s)(r:Vals vs us)(h:sp (vs++dvs) H Q E):wpAny (model X.prog X.w) X.A (call (.ref f) us) (EP X pins σ Q) X.xe s:=by
 have U:Vals (vs++dvs) (us++ds):=r.append hd;have hl:(us++ds).length=ps.length:=by rw[<- U.length];exact F.len _ _ _ _ h
 refine wpAny_call (codeAny_mono (F.run X.A X.stack s H ⟨us,[]⟩ (us++ds) (vs++dvs) Q E hr I.env0 (hb s us I.kIn hl) U h) λ r s' J=>?_);cases r with
 |error e=>exact hx pins σ H s e s' I J
 |ok fl=>cases fl with
  |ret u=>exact I.after J
  |next=>exact False.elim J
  |brk=>exact False.elim J
  |cont=>exact False.elim J
theorem rL(F:eD X.prog X.w X.K X.mg X.base CX k f fd ps sp)(hr:cX k X.A)(hg:Gl X x)(hm:X.mg x=some (.ref f))(hk:PySem.W.keepIn X.K (.ref f)=true)(hb:Binds X.K fd ps ds)(hd:Vals dvs ds)(hx:Passes CX X E)
  (ha:PA X (e::es) t)(J:(x==("__debug__":Str))=false:=by decide)(he:starEach (e::es) X.env=(false,eval e X.env)::starEach es X.env:=by rfl)(U:(backTo pos (starEach es X.env)).any (·.1)=false:=by rfl):
  PE X (.Call (.Name x p) (e::es) [] pos) (Mm sp dvs E t):=by intro pins s σ H Q I h;refine wpAny_Call_Name_kw (jm I hg hm ?_ J);refine PySem.W.callWith_K (h₀:=X.base) I.ok.mod.kin hk (c_ (ha pos pins s σ H _ I h) λ us s1 ⟨vs,H1,I1,r,q⟩=>⟨I1.kIn,?_⟩) he U;exact IZ F hr hb hd hx I1 r q
structure Mk (K:PySem.W.Frag) (C f:Addr):Prop where
 makes:PySem.W.makesIn K C=true
 init:PySem.W.findIn K (.ref C) "__init__" = some (some (.ref f))
 fn:PySem.W.isFn K (.ref f)=true
 kp:PySem.W.keepIn K (.ref C)=true
end
structure bf (N P:List Str) (sc:Scope):Prop where
 kind:sc.kind=.function
 co:sc.isCoroutine=false
 gen:sc.isGenerator=false
 nd:N.Nodup
 pre:N.take P.length=P
 par:∀ x ∈ P,sc.names.lookup x=some .local ∨ sc.names.lookup x=some .cell
 nofree:∀ y ∈ sc.names,y.2 ≠ .free
theorem qb{kindOf:Str->Option NameKind}{x:Str}: ∀{binds:List (Str×Value)}{m:Str->Option Value},(∀v,(x,v)∉binds)->bindL kindOf binds m x=m x
 |[],_,_=>rfl
 |(n,v)::r,m,h=>by
  unfold bindL;rw[qb λ w hw=>h w (List.mem_cons_of_mem _ hw)];split;. grind
  rfl
theorem qx{kindOf:Str->Option NameKind}{x:Str}: ∀{binds:List (Str×Value)}{m:Str->Option Value},(∀v,(x,v)∉binds)->bindC kindOf binds m x=m x
 |[],_,_=>rfl
 |(n,v)::r,m,h=>by
  unfold bindC;rw[qx λ w hw=>h w (List.mem_cons_of_mem _ hw)];split;. rfl
  grind
theorem qq{kindOf:Str->Option NameKind}{x:Str}{v:Value}: ∀{P:List Str}{vs:List Value}{i:Nat}{m:Str->Option Value},P.Nodup->P[i]?=some x->vs[i]?=some v->kindOf x=some .local->
  bindL kindOf (P.zip vs) m x=some v
 |[],_,_,_,_,h,_,_=>by simp at h
 |_::_,[],_,_,_,_,h,_=>by simp at h
 |p::P,w::vs,0,m,nd,h1,h2,I=>by simp at h1 h2;subst h1 h2;show bindL kindOf ((p,w)::P.zip vs) m p=_;unfold bindL;rw[qb λ v J=>(List.nodup_cons.mp nd).1 (List.of_mem_zip J).1,if_pos I];simp
 |p::P,w::vs,i+1,m,nd,h1,h2,I=>by show bindL kindOf ((p,w)::P.zip vs) m x=_;exact qq (i:=i) (List.nodup_cons.mp nd).2 (by simp_all) (by simp_all) I
theorem qt{kindOf:Str->Option NameKind}{x:Str}{v:Value}: ∀{P:List Str}{vs:List Value}{i:Nat}{m:Str->Option Value},P.Nodup->P[i]?=some x->vs[i]?=some v->kindOf x≠some .local->
  bindC kindOf (P.zip vs) m x=some v
 |[],_,_,_,_,h,_,_=>by simp at h
 |_::_,[],_,_,_,_,h,_=>by simp at h
 |p::P,w::vs,0,m,nd,h1,h2,I=>by simp at h1 h2;subst h1 h2;show bindC kindOf ((p,w)::P.zip vs) m p=_;unfold bindC;rw[qx λ v J=>(List.nodup_cons.mp nd).1 (List.of_mem_zip J).1,if_neg I];simp
 |p::P,w::vs,i+1,m,nd,h1,h2,I=>by show bindC kindOf ((p,w)::P.zip vs) m x=_;exact qt (i:=i) (List.nodup_cons.mp nd).2 (by simp_all) (by simp_all) I
noncomputable def start(N:List Str)(vs:List V):St:=vs.map some++List.replicate (N.length-vs.length) none
noncomputable def ir(CX:zY)(P:Program)(w:World)(K:PySem.W.Frag)(mg:Str->Option Value)(base:Heap)(N:List Str)(qual:Str)(scope:Scope)(f:Addr)(cd:Value)(A:Around)(outer:List Env)(s:Shared)(H:Hp)(E:XK):Cx where
 prog:=P
 w:=w
 K:=K
 mg:=mg
 base:=base
 A:=A.deeper (envOfC qual scope s.heap.objs.size f cd)
 N:=N
 s₀:=s
 H₀:=H
 env:=envOfC qual scope s.heap.objs.size f cd
 outer:=outer
 stack:=envOfC qual scope s.heap.objs.size f cd::outer
 ex:=[]
 calm:=true
 fn:= λ _=>true
 pn:=[]
 xe:= λ e s'=>wpAny (model P w) (A.deeper (envOfC qual scope s.heap.objs.size f cd)) (leaving (envOfC qual scope s.heap.objs.size f cd) e) (λ _ I=>CX outer H s E e I) (λ e' I=>CX outer H s E e' I) s'
theorem tf{sc:Scope}{n:Nat}{x:Str}(h:sc.names.lookup x=some .cell): ∃c,(cellsFrom n sc.names []).lookup x=some c:=by have q:=PySem.W.cellsFrom_some sc.names n [] (.inl h);exact Option.isSome_iff_exists.mp q
theorem ph{P:Program}{w:World}{K:PySem.W.Frag}{mg:Str->Option Value}{base:Heap}{N ps:List Str}{qual:Str}{scope:Scope}{f:Addr}{cd:Value}{A:Around}{outer:List Env}{s s1:Shared}{H:Hp}{E:XK}{us:List Value}{vs:List V}
  (S:bf N ps scope)(hd:A.handled=none)(I:zx P w K mg base A outer s H)(hl:vs.length=ps.length)(r:Vals vs us)
  (x:InCallC s s.heap.objs.size (bindL (envOfC qual scope s.heap.objs.size f cd).kindOf (ps.zip us) λ _=>none) (cellsFrom (s.heap.objs.size+1) scope.names []) (bindC (envOfC qual scope s.heap.objs.size f cd).kindOf (ps.zip us) λ _=>none) s1):
  Inv (ir CX P w K mg base N qual scope f cd A outer s H E) [] (start N vs) H s1:=by
 have ab:ps.length<=N.length:=by have:=congrArg List.length S.pre;rw[List.length_take]at this;omega
 obtain⟨h1,tk,rfl,hk⟩:=x.done;have J: ∀b:Addr,b∉(ir CX P w K mg base N qual scope f cd A outer s H E).ex:= λ b z=>absurd (show b∈([]:List Addr)from z) (by simp);refine⟨⟨I.mod,S.kind,rfl,rfl,Nat.le_refl _,λ y z c h1 h2=>?_,λ y U=>?_,λ y c _ h=>?_,λ _=>hd,Around.frames_deeper I.frames,.inr ⟨rfl,rfl⟩,λ b z=>absurd z (J b),I.bs,I.bsz,λ b _ _=>J b,λ b z=>absurd z (J b),I.funs,I.frf,I.tb⟩,
  rfl,I.bare,Un.kept hk,⟨_,x.toInCall.ns,λ i y v h1 h2 h3=>?_⟩,λ y c h=>⟨_,x.cell y c h⟩,I.hok.fresh (Nat.le_refl _),λ y c h=>?_,λ p hp=>absurd (show p∈([]:List (Addr×Obj))from hp) (by simp),I.hok.kept hk,?_⟩;. exact name_of_addr x.apart (PySem.mem_of_lookup h1) (PySem.mem_of_lookup h2)
 .rcases U with U|U
  .exact tf U
  .exact absurd rfl (S.nofree _ (PySem.mem_of_lookup U))
 .exact Nat.le_of_lt (x.above y c (PySem.mem_of_lookup h))
 .have hi:i<vs.length:=by unfold start at h2;grind
  have ha:vs[i]?=some v:=by unfold start at h2;rw[List.getElem?_append_left (by simpa using hi),List.getElem?_map]at h2;cases e:vs[i]? with
   |none=>rw[e]at h2;cases h2
   |some a=>rw[e]at h2;cases h2;rfl
  obtain⟨u,hu,rv⟩:=r.get ha;have hp:ps[i]?=some y:=by rw[<- S.pre,List.getElem?_take_of_lt (by omega)];exact h1
  have aa:ps.Nodup:=by rw[<- S.pre];exact S.nd.sublist (List.take_sublist _ _)
  refine⟨u,rv,?_⟩;rcases S.par y (List.mem_of_getElem? hp)with k|k
  .exact .inl ⟨k,qq aa hp hu k⟩
  .obtain⟨c,e⟩:=tf (n:=s.heap.objs.size+1) k;refine .inr ⟨.inl k,c,e,?_⟩;have q:=x.cell y c e;rw[qt aa hp hu (by show scope.names.lookup y≠_;rw[k];decide)]at q;exact q
 .exact I.hok.fresh (Nat.le_of_lt (x.above y c (PySem.mem_of_lookup h)))
 .unfold start;show _=N.length;rw[List.length_append,List.length_map,List.length_replicate];omega
theorem HA{K:PySem.W.Frag}{mg:Str->Option Value}{base:Heap}{k:Nat}{f:Addr}{name qual:Str}{params:Arguments}{body:List Stmt}{scope:Scope}{dV kV doc pm cdv ct oc:Value}{an od:Option Addr}
  {af:Array (Option Value)}{N ps:List Str}{sp:Sp}(lk:K.lookup f=some ⟨oc,od,.func (PySem.W.fnOf name qual params body scope dV kV doc pm an cdv ct),af⟩)(ag:PySem.W.codeIn K cdv qual=true)(S:bf N ps scope)
  (len: ∀vs H Q E,sp vs H Q E->vs.length=ps.length)
  (aa: ∀(A:Around)(outer:List Env)(s:Shared)(H:Hp)(vs:List V)(Q:VK)(E:XK),cX k (A.deeper (envOfC qual scope s.heap.objs.size f cdv))->sp vs H Q E->
   ∃t,oI (ir CX P w K mg base N qual scope f cdv A outer s H E) body t/\t { nx:= λ _ H'=>Q .non H',rt:=Q } (start N vs) H):
  eD P w K mg base CX (k+1) f (PySem.W.fnOf name qual params body scope dV kV doc pm an cdv ct) ps sp:=by
 refine⟨len,λ A outer s H args us vs Q E hr e0 hb r ae=>?_⟩;have hl:=len _ _ _ _ ae;have KX:K.In s.heap:=e0.mod.kin.keeps λ b o e=>(e0.bs b o e).1;have lim:s.heap.NoLimit:=e0.mod.nolimit.keeps λ b o e=>(e0.bs b o e).1;have ab: ∀y∈ps.zip us,scope.names.lookup y.1=some .local\/(scope.names.lookup y.1=some .cell/\((cellsFrom (s.heap.objs.size+1) scope.names []).lookup y.1).isSome=true):= λ⟨n,v⟩ hy=>by
  rcases S.par n (List.of_mem_zip hy).1 with q|q
  .exact .inl q
  .exact .inr ⟨q,PySem.W.cellsFrom_some _ _ _ (.inl q)⟩
 refine codeAny_call_function hr.depth (KX _ _ lk) rfl S.co S.gen rfl (PySem.W.codeRec_of KX ag) (hb _ _ _ _ ?_);refine wpAny_newFunctionEnv_cells S.kind ab λ env he s1 x=>?_;subst he;refine⟨lim.keeps x.toInCall.keep,codeAny_func ?_⟩;obtain⟨t,ht,hq⟩:=aa A outer s H vs Q E (hr.deeper _) ae;have I:Inv (ir CX P w K mg base N qual scope f cdv A outer s H E) [] (start N vs) H s1:=ph S hr.hd e0 hl r x;refine wpAny_mono (ht [] s1 (start N vs) H _ I hq) (λ fl s' hs=>?_) λ e s' hs=>hs;have fin: ∀{U:St}{H':Hp}{v:V}{u:Value},Inv (ir CX P w K mg base N qual scope f cdv A outer s H E) [] U H' s'->RelV v u->Q v H'->CE outer P w H s Q u s':=
  λ{U H' v u} J rv q=>⟨v,H',J.os,J.bare,J.base,J.hok,rv,q⟩;cases fl with
 |ret u=>obtain⟨v,U,H',J,rv,q⟩:=hs;exact fin J rv q
 |next=>obtain⟨U,H',J,q⟩:=hs;exact fin (v:=V.non) (u:=Value.none) J rfl q
 |brk=>obtain⟨_,_,_,q⟩:=hs;simp_all
 |cont=>obtain⟨_,_,_,q⟩:=hs;simp_all
section
variable {X:Cx} {x:Str} {p pos:Pos} {e:Expr} {es:List Expr} {t:TA} {id T:String} {r:List V->Hp->VK->Prop}
noncomputable def OX(r:List V->Hp->VK->Prop)(t:TA):TE:= λ σ H Q=>t σ H λ vs H1=>r vs H1 Q
theorem fo(hc:du X (.builtin id) r)(hg:Gl X x)(hm:X.mg x=none)(hv:bootBuiltins x=some (.builtin id))(ha:PA X (e::es) t)(hn:x≠"__name__":=by decide)(J:(x==("__debug__":Str))=false:=by decide)
  (he:starEach (e::es) X.env=(false,eval e X.env)::starEach es X.env:=by rfl)(U:(backTo pos (starEach es X.env)).any (·.1)=false:=by rfl):PE X (.Call (.Name x p) (e::es) [] pos) (OX r t):=by intro pins s σ H Q I h;refine wpAny_Call_Name_kw (i9 I hg hm hv ?_ hn J);exact PyProof.Rows.callWith_builtin1 (c_ (ha pos pins s σ H _ I h) λ us s1 ⟨vs,H1,I1,r1,q1⟩=>hc pins s1 σ H1 vs us Q I1 r1 q1) he U
theorem fK(hc:du X (.type T) r)(hg:Gl X x)(hm:X.mg x=none)(hv:bootBuiltins x=some (.type T))(ha:PA X (e::es) t)(hn:x≠"__name__":=by decide)(J:(x==("__debug__":Str))=false:=by decide)
  (he:starEach (e::es) X.env=(false,eval e X.env)::starEach es X.env:=by rfl)(U:(backTo pos (starEach es X.env)).any (·.1)=false:=by rfl):PE X (.Call (.Name x p) (e::es) [] pos) (OX r t):=by intro pins s σ H Q I h;refine wpAny_Call_Name_kw (i9 I hg hm hv ?_ hn J);exact PyProof.Rows.callWith_type1 (c_ (ha pos pins s σ H _ I h) λ us s1 ⟨vs,H1,I1,r1,q1⟩=>hc pins s1 σ H1 vs us Q I1 r1 q1) he U
end
end L2
namespace HT
open PySem PyProof.Rows
section
variable {prog:Program} {w:World} {A:Around} {E:Value->Shared->Prop} {s:Shared}
theorem cat_tup(ht:IsTup s.heap t vs.toArray)(hb:IsTup s.heap b ws.toArray)(hv:vs≠[])
  (h1:ws=[]->Q (.ref t) s)(h2:ws≠[]->Q (.ref s.heap.objs.size) { s with heap:=s.heap.push { cls:= .type "tuple",data:= .seq (vs++ws).toArray } })
  (hsz:vs.length+ws.length<=sizeLine):wpAny (model prog w) A (binaryOp .Add (.ref t) (.ref b)) Q E s:=by
 obtain⟨⟨cls,dd,data,sl⟩,ho,hc,n,hd⟩:=id ht;obtain⟨⟨ab,J,data2,U⟩,I,aa,n2,hd2⟩:=id hb;simp at hc hd aa hd2;subst hc hd aa hd2;by_cases hw:ws=[]
 .exact concat_meets ⟨_,ho,rfl⟩ ⟨_,I,rfl⟩ noFill_tuple_add seq_tuple_add PySem.F.slot_tuple_add PySem.F.entry_tuple_add (PySem.F.args_tuple_add_2 _ _)
   (tuple_addW1 t b vs.toArray ws.toArray n n2 dd J sl U (by simpa using hv) (by simp[hw])) ⟨ho,I,h1 hw⟩
 .refine concat_meets ⟨_,ho,rfl⟩ ⟨_,I,rfl⟩ noFill_tuple_add seq_tuple_add PySem.F.slot_tuple_add PySem.F.entry_tuple_add (PySem.F.args_tuple_add_2 _ _)
   (tuple_addW2 t b vs.toArray ws.toArray n n2 dd J sl U (by simpa using hv) (by simpa using hw) (by omega)) ⟨ho,I,?_⟩;grind
noncomputable def sIx(n d:Nat):Option Int->Nat
 |none=>d
 |some v=>if v<0 then(v+(n:Int)).toNat else min v.toNat n
theorem sIx_none(n d:Nat):sIx n d none=d:=rfl
theorem sIx_nat(n d k:Nat):sIx n d (some k)=min k n:=by rfl
theorem xg(v:Int)(n d:Nat):(if v<0 then max (v+n) 0 else min v n)=((sIx n d (some v):Nat):Int):=by show(if v<0 then max (v+n) 0 else min v n)=(((if v<0 then(v+n).toNat else min v.toNat n):Nat):Int);grind
theorem wz(lo I:Option Int)(n:Nat):Builtin.Slice.sliceAdjust lo I 1 n=(((sIx n 0 lo:Nat):Int),((sIx n n I:Nat):Int)):=by
 refine Prod.ext ?_ ?_;. cases lo with
  |none=>rfl
  |some v=>exact xg v n 0
 .cases I with
  |none=>rfl
  |some v=>exact xg v n n
theorem vo(i j:Nat):Builtin.Slice.slicePlaces i j 1=j-i:=by unfold Builtin.Slice.slicePlaces;omega
theorem mL {v:Value} {o:Option Int} {Q:Option Int->Shared->Prop} (p:IsPart v o) (h:Q o s):wpAny (model prog w) A (Builtin.Slice.slicePartIndex v) Q E s:= by
 cases p with
 | none=>exact slicePart_none h
 | int i t=>exact slicePart_int h
theorem sliceApplied_gen{lo I:Option Int}{n:Nat}{Q:Int×Int×Nat->Shared->Prop}(hs:s.heap.IsSliceOf sl vl vu .none)(pl:IsPart vl lo)(pu:IsPart vu I)
  (h:Q (((sIx n 0 lo:Nat):Int),1,sIx n n I-sIx n 0 lo) s):wpAny (model prog w) A (Builtin.Slice.sliceApplied (.ref sl) (pure n)) Q E s:=by obtain⟨os,J,aa,U⟩:=id hs;refine wpAny_bind (wpAny_bind (wpAny_field J U (x:=vl) rfl (wpAny_bind (wpAny_field J U (x:=vu) rfl (wpAny_bind (wpAny_field J U (x:= .none) rfl (wpAny_pure ?_)))))));refine wpAny_bind (slicePart_none ?_);refine wpAny_bind (mL pl (wpAny_bind (mL pu (wpAny_bind (wpAny_pure ?_)))));show wpAny _ _ (match Builtin.Slice.sliceAdjust lo I 1 n with|(lo,I)=>pure (lo,(1:Int),Builtin.Slice.slicePlaces lo I 1)) _ _ s;rw[wz lo I n];show wpAny _ _ (pure (((sIx n 0 lo:Nat):Int),1,Builtin.Slice.slicePlaces ((sIx n 0 lo:Nat):Int) ((sIx n n I:Nat):Int) 1)) _ _ s;rw[vo];exact wpAny_pure h
theorem AZ(xs:Array Value)(i k:Nat):((List.range k).filterMap λ(m:Nat)=>xs[((i:Int)+m*1).toNat]?).toArray=((xs.toList.drop i).take k).toArray:=by
 have e:(λ(m:Nat)=>xs[((i:Int)+m*1).toNat]?)= λ m=>xs[i+m]?:=by
  funext m;have:((i:Int)+m*1).toNat=i+m:=by omega
  rw[this]
 have:=pick_run xs i k;have I:((λ x=>xs[x]?)∘ λ x=>i+x)= λ m=>xs[i+m]?:=rfl;simp_all
theorem getItem_tuple_cut{items:Array Value}{vl vu:Value}{lo J:Option Int}{Q:Value->Shared->Prop}(U:IsTup s.heap t items)(hs:s.heap.IsSliceOf sl vl vu .none)(pl:IsPart vl lo)(pu:IsPart vu J)
  (hw: ¬(sIx items.size 0 lo=0/\sIx items.size items.size J=items.size))
  (h:Q (.ref s.heap.objs.size) { s with heap:=s.heap.push { cls:= .type "tuple",data:= .seq ((items.toList.drop (sIx items.size 0 lo)).take (sIx items.size items.size J-sIx items.size 0 lo)).toArray } })
  (hsz:items.size<=sizeLine):wpAny (model prog w) A (getItem (.ref t) (.ref sl)) Q E s:=by
 have I:sizeOk (.seq ((items.toList.drop (sIx items.size 0 lo)).take (sIx items.size items.size J-sIx items.size 0 lo)).toArray):=by show((items.toList.drop (sIx items.size 0 lo)).take (sIx items.size items.size J-sIx items.size 0 lo)).toArray.size<=sizeLine;rw[List.size_toArray,List.length_take,List.length_drop,Array.length_toList];omega
 obtain⟨os,aa,ab,ag⟩:=id hs;have ae:s.TypeIs (.ref sl) "slice":=⟨os,aa,ab⟩;unfold getItem;try with_reducible refine wpAny_holding ?_
 refine wpAny_bind (wpAny_sequenceKey U.typeIs (by decide) ?_);refine wpAny_bind (wpAny_callSpecial?_slot (name:=Str.ofString "__getitem__") U.typeIs PyProof.Rows.slot_tuple_getitem
  (wpAny_call_entry PyProof.Rows.slot_tuple_getitem U.typeIs entry_tuple_getitem ?_ (args_tuple_getitem _ _)));show wpAny _ _ (Builtin.Tuple.tupleItemsOf (.ref t) >>= _) _ _ s;refine wpAny_bind (tupleItemsOf_ U ?_);refine wpAny_bind (wpAny_typeOf ae ?_);refine wpAny_bind (sliceApplied_gen hs pl pu ?_);have af: ¬((((sIx items.size 0 lo:Nat):Int)==0&&(1:Int)==1&&(sIx items.size items.size J-sIx items.size 0 lo)==items.size)=true):=by grind
 show wpAny _ _ (if(((sIx items.size 0 lo:Nat):Int)==0&&1==1&&(sIx items.size items.size J-sIx items.size 0 lo)==items.size)=true then _ else _) _ _ s;rw[if_neg af,AZ];first
  |exact wpAny_bind (m:=Builtin.Tuple.tupleExact _) (wpAny_newObj_type (wpAny_pure ⟨_,rfl,wpAny_pure h⟩) I)
  |exact wpAny_bind (m:=Builtin.Tuple.tupleExact _) (wpAny_newObj_type (wpAny_bind (wpAny_pure (wpAny_pure ⟨_,rfl,wpAny_pure h⟩))) I)
  |exact wpAny_bind (wpAny_bind (m:=Builtin.Tuple.tupleExact _) (wpAny_newObj_type (wpAny_pure (wpAny_pure ⟨_,rfl,wpAny_pure h⟩)) I))
  |exact wpAny_bind (wpAny_bind (m:=Builtin.Tuple.tupleExact _) (wpAny_newObj_type (wpAny_pure ⟨_,rfl,wpAny_pure h⟩) I))
end
end HT
namespace L2
open PySem PySem.Spec PyProof.Rows
noncomputable abbrev TO:=St->Hp->(Option Int->Hp->Prop)->Prop
noncomputable def PO(X:Cx)(e:Option Expr)(t:TO):Prop:=
 ∀(pins:List (Addr×Obj))(s:Shared)(σ:St)(H:Hp)(Q:Option Int->Hp->Prop),Inv X pins σ H s->t σ H Q->
  wpAny (model X.prog X.w) X.A (evalPart e X.env) (λ u s'=> ∃o H',Inv X pins σ H' s'/\IsPart u o/\Q o H') X.xe s
noncomputable def Hr:TO:= λ _ H Q=>Q none H
noncomputable def Ma(t:TE):TO:= λ σ H Q=>t σ H λ x H1=> ∃i,x= .int i/\Q (some i) H1
theorem intsAre_of: ∀{us:List Value},Vals (ns.map V.int) us->IntsAre us ns:=by induction ns with
 |nil=>intro us r;cases r;exact .nil
 |cons n ns I=>intro us r;cases r with
  |cons J U=>obtain⟨t,e⟩:=J;subst e;exact .cons n t (I U)
section
variable {X:Cx} {e:Expr} {te:TE} {lo hi:Option Expr} {tl th:TO} {pos p2:Pos}
theorem Hy:PO X none Hr:=by intro pins s σ H Q I h;exact wpAny_pure ⟨none,H,I,.none,h⟩
theorem Fz(h:PE X e te):PO X (some e) (Ma te):=by intro pins s σ H Q I hw;refine c_ (h pins s σ H _ I hw) λ u s1 ⟨x,H1,J,U,q1⟩=>?_;obtain⟨i,rfl,q⟩:=q1;obtain⟨t,rfl⟩:=U;exact⟨some i,H1,J,.int i t,q⟩
noncomputable def HL(X:Cx)(r:V->Option Int->Option Int->Hp->VK->Prop):Prop:=
 ∀(pins:List (Addr×Obj))(s:Shared)(σ:St)(H:Hp)(x:V)(v I J:Value)(lo hi:Option Int)(sl:Addr)(Q:VK),Inv X pins σ H s->RelV x v->s.heap.IsSliceOf sl I J .none->IsPart I lo->IsPart J hi->r x lo hi H Q->
  ∃T id,typeLookup (.type T) "__getitem__"=pure (some (.builtin id))/\s.TypeIs v T/\wpAny (model X.prog X.w) X.A (getItem v (.ref sl)) (EP X pins σ Q) X.xe s
theorem HL.or(h:HL X r)(h':HL X r'):HL X (λ x lo hi H Q=>r x lo hi H Q\/r' x lo hi H Q):=by
 intro pins s σ H x v J U lo hi sl Q I rx hs pl pu q;rcases q with q|q
 .exact h pins s σ H x v J U lo hi sl Q I rx hs pl pu q
 .exact h' pins s σ H x v J U lo hi sl Q I rx hs pl pu q
noncomputable def Qw(r:V->Option Int->Option Int->Hp->VK->Prop)(te:TE)(tl th:TO):TE:= λ σ H Q=>te σ H λ x H1=>tl σ H1 λ l H2=>th σ H2 λ u I=>r x l u I Q
theorem A9(hr:HL X r)(he:PE X e te)(hl:PO X lo tl)(hu:PO X hi th):PE X (.Subscript e (.Slice lo hi none p2) pos) (Qw r te tl th):=by intro pins s σ H Q I h;refine Subscript_ (c_ (he pins s σ H _ I h) λ v s1 ⟨x,H1,I1,r1,q1⟩=>?_);refine wpAny_Slice (c_ (hl pins s1 σ H1 _ I1 q1) λ J s2 ⟨l,H2,I2,pl,q2⟩=>c_ (hu pins s2 σ H2 _ I2 q2) λ U s3 ⟨u,H3,I3,pu,q3⟩=>?_);refine wpAny_pure ?_;have I4:Inv X pins σ H3 { s3 with heap:=s3.heap.push { cls:= .type "slice",data:= .fields #[J,U,.none] } }:=I3.kept (t':=s3.toks) λ b ob q=>Heap.get?_push_of_some _ q;obtain⟨T,id,hT,ht,hg⟩:=hr pins { s3 with heap:=s3.heap.push { cls:= .type "slice",data:= .fields #[J,U,.none] } } σ H3 x v J U l u s3.heap.objs.size Q I4 r1 (Heap.IsSliceOf.new ..) pl pu q3;exact tail_any (ops:=[.ref s3.heap.objs.size,v]) ht hT hg (by rfl)
noncomputable def rA(xs:List V)(lo hi:Option Int):List V:=(xs.drop (HT.sIx xs.length 0 lo)).take (HT.sIx xs.length xs.length hi-HT.sIx xs.length 0 lo)
theorem ll(xs:List V)(lo hi:Option Int):(rA xs lo hi).length<=xs.length:=by unfold rA;grind
noncomputable def Px(K:PySem.W.Frag):V->Option Int->Option Int->Hp->VK->Prop:= λ x lo hi H Q=> ∃a xs,x= .ref a/\gm K H a xs/\
 ¬(HT.sIx xs.length 0 lo=0/\HT.sIx xs.length xs.length hi=xs.length)/\ ∀p,H p=none->Q (.ref p) (upd H p (.tup (rA xs lo hi)))
theorem J0:HL X (Px X.K):=by intro pins s σ H x v vl vu lo hi sl Q I rx hs pl pu h;obtain⟨a,xs,rfl,hx,hw,q⟩:=h;cases rx;obtain⟨its,r,U,hz⟩:=I.tuple hx;have hlen:its.toArray.size=xs.length:=r.length.symm;refine⟨"tuple",_,PyProof.Rows.slot_tuple_getitem.lookup,U.typeIs,?_⟩;refine HT.getItem_tuple_cut U hs pl pu (by grind) ?_ (by rw[hlen];exact hz);rw[hlen];refine⟨.ref s.heap.objs.size,_,I.laid (t':=s.toks) (o:= .tup (rA xs lo hi)) (λ b ob q=>Heap.get?_push_of_some _ q) (Nat.le_refl _) ?_,rfl,q _ (I.hok.fresh (Nat.le_refl _))⟩;exact⟨Nat.le_trans (ll xs lo hi) hz,_,(r.drop (HT.sIx xs.length 0 lo)).take (HT.sIx xs.length xs.length hi-HT.sIx xs.length 0 lo),vY.new _ _⟩
noncomputable def DY(K:PySem.W.Frag):R2:= λ x y H Q=> ∃a b xs ys,x= .ref a/\y= .ref b/\gm K H a xs/\gm K H b ys/\xs≠[]/\xs.length+ys.length<=sizeLine/\
 (ys=[]->Q (.ref a) H)/\(ys≠[]-> ∀p,H p=none->Q (.ref p) (upd H p (.tup (xs++ys))))
theorem Vals.nil_iff(r:Vals xs us):us=[]↔xs=[]:=by cases r with
 |nil=>simp
 |cons _ _=>simp
theorem GQ:gD X (binaryOp .Add) (DY X.K):=by intro pins s σ H x y v u Q I rx ry h;obtain⟨a,b,xs,ys,rfl,rfl,ha,hb,hx,hz,q1,q2⟩:=h;cases rx;cases ry;obtain⟨its,U,p1,_⟩:=I.tuple ha;obtain⟨aa,J,p2,_⟩:=I.tuple hb;refine HT.cat_tup p1 p2 (λ z=>hx (U.nil_iff.mp z)) (λ z=>⟨.ref a,H,I,rfl,q1 (J.nil_iff.mp z)⟩) (λ z=>?_) (by rw[<- U.length,<- J.length];omega);refine⟨.ref s.heap.objs.size,_,I.laid (t':=s.toks) (o:= .tup (xs++ys)) (λ b ob q=>Heap.get?_push_of_some _ q) (Nat.le_refl _) ?_,rfl,q2 (λ w=>z (J.nil_iff.mpr w)) _ (I.hok.fresh (Nat.le_refl _))⟩;exact⟨by rw[List.length_append];exact hz,_,U.append J,vY.new _ _⟩
end
noncomputable def zE(n:Nat)(i:Int):Option Nat:=if 0<=i then(if i<n then some i.toNat else none)else if-(n:Int)<=i then some (i+n).toNat else none
noncomputable def jL{α:Type}(xs:List α)(i:Int):Option α:=(zE xs.length i).bind λ j=>xs[j]?
theorem xi(h:zE n i=some j):seqIndex? i n=some j/\j<n/\ -n<=i/\i<n:=by
 unfold zE at h;by_cases h0:0<=i
 .rw[if_pos h0]at h;by_cases h1:i<n
  .rw[if_pos h1]at h;have e:i.toNat=j:=Option.some.inj h;exact⟨by rw[seqIndex_of h0 h1,e],by omega,by omega,h1⟩
  .rw[if_neg h1]at h;cases h
 .rw[if_neg h0]at h;by_cases h1: -n<=i;. rw[if_pos h1]at h;have e:(i+n).toNat=j:=Option.some.inj h;exact⟨by rw[seqIndex_neg (by omega) h1,e],by omega,h1,by omega⟩
  simp_all
theorem sF(h:jL xs i=some v): ∃j,seqIndex? i xs.length=some j/\xs[j]?=some v/\j<xs.length/\ -xs.length<=i/\i<xs.length:=by unfold jL at h;cases e:zE xs.length i with
 |none=>rw[e]at h;cases h
 |some j=>obtain⟨h1,h2,I,J⟩:=xi e;grind
theorem atI_nat{j:Nat}{v:α}(h:xs[j]?=some v):jL xs j=some v:=by
 have I:j<xs.length:=(List.getElem?_eq_some_iff.mp h).1;have e:zE xs.length j=some j:=by unfold zE;rw[if_pos (by omega),if_pos (by omega)];simp
 unfold jL;grind
noncomputable def l4(b:Expr):Prop:= ∀o i,subscripted b false o i=operate [o,i] (getItem o i)
noncomputable def D8(X:Cx)(r:R2):Prop:=
 ∀(value slice:Expr)(pins:List (Addr×Obj))(s:Shared)(σ:St)(H:Hp)(x y:V)(v u:Value)(Q:VK),Inv X pins σ H s->RelV x v->RelV y u->r x y H Q->
  subscripted slice false v u=operate [v,u] (getItem v u)->wpAny (model X.prog X.w) X.A (subscriptTail value slice v u) (EP X pins σ Q) X.xe s
noncomputable def Qx(X:Cx)(id:String)(r:V->List V->Hp->VK->Prop):Prop:=
 ∀(pins:List (Addr×Obj))(s:Shared)(σ:St)(H:Hp)(x:V)(xs:List V)(v:Value)(us:List Value)(Q:VK),Inv X pins σ H s->RelV x v->Vals xs us->r x xs H Q->
  wpAny (model X.prog X.w) X.A (call (.builtin id) (v::us)) (EP X pins σ Q) X.xe s
section
variable {X:Cx} {a b:Expr} {ta tb:TE} {pos:Pos}
theorem D8.or(h:D8 X r)(h':D8 X r'):D8 X (λ x y H Q=>r x y H Q\/r' x y H Q):=by
 intro value slice pins s σ H x y v u Q I J U q hs;rcases q with q|q
 .exact h value slice pins s σ H x y v u Q I J U q hs
 .exact h' value slice pins s σ H x y v u Q I J U q hs
theorem C6(J:D8 X r)(U:PE X a ta)(hb:PE X b tb)(hs:l4 b):PE X (.Subscript a b pos) (xu r ta tb):=by intro pins s σ H Q I h;exact Subscript_ (Ky U hb I h λ v u s2 x y H2 I2 rx ry q=>J a b pins s2 σ H2 x y v u Q I2 rx ry q (hs _ _))
noncomputable def Nt(K:PySem.W.Frag):R2:= λ x y H Q=> ∃p xs i v,x= .ref p/\y= .int i/\jr K H p xs/\jL xs i=some v/\Q v H
noncomputable def Oi(K:PySem.W.Frag):R2:= λ x y H Q=> ∃p xs i v,x= .ref p/\y= .int i/\gm K H p xs/\jL xs i=some v/\Q v H
noncomputable def Oe:R2:= λ x y H Q=> ∃z i c,x= .str z/\y= .int i/\z.length<=sizeLine/\jL z.cps.toList i=some c/\Q (.str ⟨#[c]⟩) H
theorem x4:D8 X (Nt X.K):=by
 intro value slice pins s σ H x y v u Q I rx ry h hs;obtain⟨p,xs,i,z,rfl,rfl,hq,he,q⟩:=h;cases rx;obtain⟨t,rfl⟩:=ry;obtain⟨its,r,pl,hz⟩:=I.list hq;obtain⟨j,h1,h2,h3,h4,h5⟩:=sF he;obtain⟨w,ew,J⟩:=r.get h2;have hl:=r.length;have hn:=kF;have fin:EP X pins σ Q w s:=⟨z,H,I,J,q⟩;by_cases h0:0<=i
 .have U:i.toNat=j:=by
   rw[seqIndex_of h0 h5]at h1;exact Option.some.inj h1
  exact item_listR pl.isList h0 (by omega) (by rw[U];simpa using ew) fin hs
 .have U:(i+its.toArray.size).toNat=j:=by rw[seqIndex_neg (by omega) h4]at h1;rw[List.size_toArray,<- hl];exact Option.some.inj h1
  exact subscriptTail_builtinR (x:=w) pl.isList.typeIs slot_list_getitem.lookup
   (wpAny_getItem_list_neg (Q:= λ r s'=>r=w/\EP X pins σ Q r s') pl.isList (by omega) (by rw[List.size_toArray] <;> omega) (by omega) (by rw[U];simpa using ew) ⟨rfl,fin⟩) hs
theorem J3:D8 X (Oi X.K):=by
 intro value slice pins s σ H x y v u Q I U ry h hs;obtain⟨p,xs,i,z,rfl,rfl,hq,he,q⟩:=h;cases U;obtain⟨t,rfl⟩:=ry;obtain⟨its,r,pl,hz⟩:=I.tuple hq;obtain⟨j,h1,h2,h3,h4,h5⟩:=sF he;obtain⟨w,ew,J⟩:=r.get h2;have hl:=r.length;have hn:=kF;have fin:EP X pins σ Q w s:=⟨z,H,I,J,q⟩;exact subscriptTail_builtinR (x:=w) pl.typeIs slot_tuple_getitem.lookup
  (getItem_tuple (j:=j) (Q:= λ r s'=>r=w/\EP X pins σ Q r s') pl (by omega) (by omega) (by simp_all) (by simpa using ew) ⟨rfl,fin⟩) hs
theorem Lg:D8 X Oe:= by
 intro value slice pins s σ H x y v u Q I rx ry h hs
 obtain ⟨z,i,c,rfl,rfl,hz,he,q⟩:=h
 obtain ⟨t,rfl⟩:=rx
 obtain ⟨t',rfl⟩:=ry
 obtain ⟨j,h1,h2,h3,h4,h5⟩:=sF he
 have hl:z.cps.toList.length=z.length:=by simp [Str.length]
 rw [hl] at h1 h4 h5
 have hn:=kF
 exact tail_any (typeIs_str s z t) slot_str_getitem.lookup (getItem_str (c:=c) (by
  grind) (by rw [h1];simpa using h2) ⟨.str ⟨#[c]⟩,H,I.tok _,⟨_,rfl⟩,q⟩) hs
noncomputable def O9(K:PySem.W.Frag):R2:= λ x y H Q=>Nt K x y H Q\/Oi K x y H Q\/Oe x y H Q
theorem Bk:D8 X (O9 X.K):=x4.or (J3.or Lg)
theorem vV(its:List Value)(n j:Nat)(u:Value):Obj.mapSeq (·.setIfInBounds j u) { cls:= .type "list",data:= .seq its.toArray n }={ cls:= .type "list",data:= .seq (its.set j u).toArray n }:=by simp[Obj.mapSeq]
theorem Inv.lst{pins:List (Addr×Obj)}{σ:St}{H:Hp}{s:Shared}{p:Addr}{xs:List V}(I:Inv X pins σ H s)(h:H p=some (.lst xs)):
  ∃(its:List Value) (n:Nat),Vals xs its/\s.heap.get? p=some { cls:= .type "list",data:= .seq its.toArray n }/\xs.length<=sizeLine:=by obtain⟨z,its,n,r,e⟩:=I.hok p _ h;grind
theorem Inv.lstUpd{σ:St}{H:Hp}{s:Shared}{p:Addr}{xs ys:List V}{its its':List Value}{n J:Nat}{f:Obj->Obj}(I:Inv X pins σ H s)(h:H p=some (.lst xs))
  (U:s.heap.get? p=some { cls:= .type "list",data:= .seq its.toArray n })(hf:f { cls:= .type "list",data:= .seq its.toArray n }={ cls:= .type "list",data:= .seq its'.toArray J })(r:Vals ys its')(hz:ys.length<=sizeLine)(t:Nat):
  Inv X pins σ (upd H p (.lst ys)) { s with heap:=s.heap.update p f,toks:=t }:=by
 have e:(s.heap.update p f).get? p=some { cls:= .type "list",data:= .seq its'.toArray J }:=by rw[Heap.get?_update_self f U (by rw[hf] <;> rfl),hf]
 refine I.write (x:=p) (e:=p) (by rw[h];trivial) (.inl rfl) (λ b u hb q=>(Heap.get?_update_other _ _ (Ne.symm hb)).trans q) ⟨_,e⟩ ?_;exact⟨hz,its',J,r,e⟩
noncomputable def L9:V->V->V->Hp->(Hp->Prop)->Prop:= λ o i v H Q=> ∃p xs k j,o= .ref p/\i= .int k/\H p=some (.lst xs)/\zE xs.length k=some j/\Q (upd H p (.lst (xs.set j v)))
theorem set_list:MY X L9:=by
 intro pins s σ H o i v ov iv u Q I ro ri rv h;obtain⟨p,xs,k,j,rfl,rfl,hp,hj,q⟩:=h;cases ro;obtain⟨t,rfl⟩:=ri;obtain⟨its,n,r,J,hz⟩:=I.lst hp;obtain⟨h1,h2,h3,h4⟩:=xi hj;have hl:=r.length;have hn:=kF;have I':Inv X pins σ (upd H p (.lst (xs.set j v))) { s with heap:=s.heap.update p (Obj.mapSeq (·.setIfInBounds j u)) }:=
  I.lstUpd hp J (vV its n j u) (r.set rv j) (by rw[List.length_set];exact hz) s.toks;by_cases h0:0<=k
 .have U:k.toNat=j:=by rw[seqIndex_of h0 h4]at h1;exact Option.some.inj h1
  exact PySem.W.ki_setAt J h0 (by omega) (by rw[List.size_toArray,<- hl];exact h4) (by rw[U];exact⟨_,I',q⟩)
 .have U:(k+its.toArray.size).toNat=j:=by rw[seqIndex_neg (by omega) h3]at h1;simp_all
  exact PySem.W.ki_setBack J (by omega) (by rw[List.size_toArray,<- hl];exact h3) (by omega) (by rw[U];exact⟨_,I',q⟩)
theorem rq(lo hi:Option Int)(n:Nat):(sliceBounds lo hi none n).1=((HT.sIx n 0 lo:Nat):Int)/\(sliceBounds lo hi none n).2.1=((HT.sIx n n hi:Nat):Int)/\(sliceBounds lo hi none n).2.2=1:=by
 refine⟨?_,?_,rfl⟩;. cases lo with
  |none=>simp[sliceBounds,HT.sIx]
  |some i=>simp only[sliceBounds,HT.sIx];grind
 .cases hi with
  |none=>simp[sliceBounds,HT.sIx]
  |some i=>simp only[sliceBounds,HT.sIx];grind
theorem oZ(its:List Value)(lo hi:Option Int):slicePick its.toArray lo hi none=((its.drop (HT.sIx its.length 0 lo)).take (HT.sIx its.length its.length hi-HT.sIx its.length 0 lo)).toArray:=by obtain⟨h1,h2,J⟩:=rq lo hi its.toArray.size;unfold slicePick;rw[h1,h2,J];simp only[sliceRange_one,pick_run] <;> rfl
noncomputable def Pg(K:PySem.W.Frag):V->Option Int->Option Int->Hp->VK->Prop:= λ x lo hi H Q=> ∃a xs,x= .ref a/\jr K H a xs/\ ∀p,H p=none->Q (.ref p) (upd H p (.lst (rA xs lo hi)))
theorem Fy:HL X (Pg X.K):=by intro pins s σ H x v vl vu lo hi sl Q I rx hs pl pu h;obtain⟨a,xs,rfl,hx,q⟩:=h;cases rx;obtain⟨its,r,J,hz⟩:=I.list hx;have hlen:=r.length;refine⟨"list",_,slot_list_getitem.lookup,J.isList.typeIs,?_⟩;refine wpAny_getItem_list_slice J.isList hs pl pu .none (by simp) ?_ (by simp_all);rw[oZ,<- hlen];refine⟨.ref s.heap.objs.size,_,I.laid (t':=s.toks) (o:= .lst (rA xs lo hi)) (λ b ob q=>Heap.get?_push_of_some _ q) (Nat.le_refl _) ?_,rfl,q _ (I.hok.fresh (Nat.le_refl _))⟩;exact⟨Nat.le_trans (ll xs lo hi) hz,_,0,(r.drop (HT.sIx xs.length 0 lo)).take (HT.sIx xs.length xs.length hi-HT.sIx xs.length 0 lo),Heap.get?_push_size _ rfl⟩
noncomputable def iH:V->Bool
 | .non=>true
 | .bl _=>true
 | .int _=>true
 | .str _=>true
 |_=>false
noncomputable def xG:V->V->Bool
 | .non,.non=>true
 | .bl a,.bl b=>a==b
 | .bl a,.int b=>(if a then 1 else 0)==b
 | .int a,.bl b=>a==(if b then 1 else 0)
 | .int a,.int b=>a==b
 | .str a,.str b=>a==b
 |_,_=>false
theorem A6 {A:Around} {s:Shared} {y x:V} {u v:Value} (ry:RelV y u) (rx:RelV x v) (fy:iH y=true) (fx:iH x=true):SeqAt.EqAt A s u v (xG y x):= by
 cases y with
 | non=>
  cases ry
  cases x with
  | non=>cases rx;exact SeqAt.EqAt.same _
  | bl b=>cases rx;exact SeqAt.EqAt.none_bool b
  | int b=>obtain ⟨t,rfl⟩:=rx;exact SeqAt.EqAt.none_int b t
  | str b=>obtain ⟨t,rfl⟩:=rx;exact SeqAt.EqAt.none_str b t
  | _=>exact absurd (show false=true from fx) Bool.false_ne_true
 | bl a=>
  cases ry
  cases x with
  | non=>cases rx;exact SeqAt.EqAt.bool_none a
  | bl b=>cases rx;exact SeqAt.EqAt.bool_bool a b
  | int b=>obtain ⟨t,rfl⟩:=rx;exact SeqAt.EqAt.bool_int a b t
  | str b=>obtain ⟨t,rfl⟩:=rx;exact SeqAt.EqAt.bool_str a b t
  | _=>exact absurd (show false=true from fx) Bool.false_ne_true
 | int a=>
  obtain ⟨t',rfl⟩:=ry
  cases x with
  | non=>cases rx;exact SeqAt.EqAt.int_none a t'
  | bl b=>cases rx;exact SeqAt.EqAt.int_bool a t' b
  | int b=>obtain ⟨t,rfl⟩:=rx;exact SeqAt.EqAt.int_int a t' b t
  | str b=>obtain ⟨t,rfl⟩:=rx;exact SeqAt.EqAt.int_str a t' b t
  | _=>exact absurd (show false=true from fx) Bool.false_ne_true
 | str a=>
  obtain ⟨t',rfl⟩:=ry
  cases x with
  | non=>cases rx;exact SeqAt.EqAt.str_none a t'
  | bl b=>cases rx;exact SeqAt.EqAt.str_bool a t' b
  | int b=>obtain ⟨t,rfl⟩:=rx;exact SeqAt.EqAt.str_int a t' b t
  | str b=>obtain ⟨t,rfl⟩:=rx;exact SeqAt.EqAt.str_str a t' b t
  | _=>exact absurd (show false=true from fx) Bool.false_ne_true
 | _=>exact absurd (show false=true from fy) Bool.false_ne_true
noncomputable def vx(x:V)(u:Value):Bool:=match u with
 | .none=>xG .non x
 | .bool b=>xG (.bl b) x
 | .int i _=>xG (.int i) x
 | .str z _=>xG (.str z) x
 |_=>false
theorem CT{x y:V}{u:Value}(r:RelV y u)(f:iH y=true):vx x u=xG y x:=by cases y with
 |non=>cases r;rfl
 |bl b=>cases r;rfl
 |int i=>obtain⟨t,rfl⟩:=r;rfl
 |str z=>obtain⟨t,rfl⟩:=r;rfl
 |_=>exact absurd (show false=true from f) Bool.false_ne_true
theorem kh: ∀{xs:List V}{us:List Value},Vals xs us->xs.all iH=true->us.any (vx x)=xs.any λ y=>xG y x
 |_,_,.nil,_=>rfl
 |y::xs,u::us,.cons r t,f=>by rw[List.all_cons,Bool.and_eq_true]at f;rw[List.any_cons,List.any_cons,CT r f.1,kh t f.2]
theorem iz{x:V}{v:Value}(J:RelV x v)(fx:iH x=true): ∀{xs:List V}{us:List Value},Vals xs us->xs.all iH=true-> ∀u∈us,SeqAt.EqAt A s u v (vx x u)
 |_,_,.nil,_=> λ u I=>by grind
 |y::xs,u::us,.cons r t,f=> λ U I=>by
  rw[List.all_cons,Bool.and_eq_true]at f;rcases List.mem_cons.mp I with rfl|I
  .rw[CT r f.1];exact A6 r J f.1 fx
  .exact iz J fx t f.2 U I
noncomputable def L3(x:V)(xs:List V):Bool:=xs.any λ y=>xG y x
noncomputable def P2(K:PySem.W.Frag)(neg:Bool):R2:= λ x y H Q=> ∃p xs,y= .ref p/\(jr K H p xs\/gm K H p xs)/\iH x=true/\xs.all iH=true/\Q (.bl (if neg then !L3 x xs else L3 x xs)) H
theorem qk:gD X (compareOp .In) (P2 X.K false):=by
 intro pins s σ H x y v u Q I U ry h;obtain⟨p,xs,rfl,J,fx,fs,q⟩:=h;cases ry;rcases J with J|J
 .obtain⟨its,r,pl,hz⟩:=I.list J;refine SeqAt.in_listAt (vx x) pl.isList (λ w hw=>iz U fx r fs w (by simpa using hw)) ⟨.bl _,H,I,rfl,?_⟩;rw[show its.toArray.any (vx x)=its.any (vx x)by simp,kh r fs];exact q
 .obtain⟨its,r,pl,hz⟩:=I.tuple J;refine SeqAt.in_tupleAt (vx x) pl (λ w hw=>iz U fx r fs w (by simpa using hw)) ⟨.bl _,H,I,rfl,?_⟩;rw[show its.toArray.any (vx x)=its.any (vx x)by simp,kh r fs];exact q
theorem sJ:gD X (compareOp .NotIn) (P2 X.K true):=by
 intro pins s σ H x y v u Q I U ry h;obtain⟨p,xs,rfl,J,fx,fs,q⟩:=h;cases ry;rcases J with J|J
 .obtain⟨its,r,pl,hz⟩:=I.list J;refine SeqAt.notIn_listAt (vx x) pl.isList (λ w hw=>iz U fx r fs w (by simpa using hw)) ⟨.bl _,H,I,rfl,?_⟩;rw[show its.toArray.any (vx x)=its.any (vx x)by simp,kh r fs];exact q
 .obtain⟨its,r,pl,hz⟩:=I.tuple J;refine SeqAt.notIn_tupleAt (vx x) pl (λ w hw=>iz U fx r fs w (by simpa using hw)) ⟨.bl _,H,I,rfl,?_⟩;rw[show its.toArray.any (vx x)=its.any (vx x)by simp,kh r fs];exact q
theorem ko:du X (.builtin "len") (λ xs H Q=> ∃p ys,xs=[.ref p]/\(jr X.K H p ys\/gm X.K H p ys)/\Q (.int ys.length) H):=by
 intro pins s σ H xs us Q I r h;obtain⟨p,ys,rfl,J,q⟩:=h;obtain⟨u,rfl,rx⟩:=vals1 r;cases rx;have hn:=kF;rcases J with J|J
 .obtain⟨its,U,pl,hz⟩:=I.list J;have hlen:=U.length;exact Calls.call_len_list pl.isList (by simp <;> omega) ⟨.int ys.length,H,I.tok _,⟨s.toks+1,by rw[List.size_toArray,hlen]⟩,q⟩
 .obtain⟨its,U,pl,hz⟩:=I.tuple J;have hlen:=U.length;exact len_tuple pl (by simp <;> omega) ⟨.int ys.length,H,I.tok _,⟨s.toks+1,by rw[List.size_toArray,hlen]⟩,q⟩
theorem rQ:du X (.type "list") (λ xs H Q=> ∃p ys,xs=[.ref p]/\(jr X.K H p ys\/gm X.K H p ys)/\ ∀l,H l=none->Q (.ref l) (upd H l (.lst ys))):=by
 intro pins s σ H xs us Q I r h;obtain⟨p,ys,rfl,hq,q⟩:=h;obtain⟨u,rfl,rx⟩:=vals1 r;cases rx;have fin: ∀(its:List Value),Vals ys its->ys.length<=sizeLine-> ∀(h':Heap)(J:Nat),(∀b o',s.heap.get? b=some o'->h'.get? b=some o')->
   h'.get? s.heap.objs.size=some { cls:= .type "list",dict:=none,data:= .seq its.toArray J,slots:=#[] }->EP X pins σ Q (.ref s.heap.objs.size) { s with heap:=h' }:= λ its U hz h' J kp e=>
  ⟨.ref s.heap.objs.size,_,I.laid (t':=s.toks) kp (Nat.le_refl _) (show d8 X.prog X.w _ h' _ (.lst ys)from⟨hz,its,J,U,e⟩),rfl,q _ (I.hok.fresh (Nat.le_refl _))⟩;rcases hq with hq|hq
 .obtain⟨its,U,pl,hz⟩:=I.list hq;have hlen:=U.length;obtain⟨o,ho,hc,n,hd⟩:=pl.isList;exact call_list_seq p (.inl rfl) ho hc hd (λ h' J kp e=>fin its U hz h' J kp e) (by simp_all)
 .obtain⟨its,U,pl,hz⟩:=I.tuple hq;have hlen:=U.length;obtain⟨o,ho,hc,n,hd⟩:=pl;exact call_list_seq p (.inr rfl) ho hc hd (λ h' J kp e=>fin its U hz h' J kp e) (by simp <;> omega)
theorem jt:du X (.type "tuple") (λ xs H Q=> ∃p ys,xs=[.ref p]/\((jr X.K H p ys/\ ∀l,H l=none->Q (.ref l) (upd H l (.tup ys)))\/(gm X.K H p ys/\Q (.ref p) H))):=by
 intro pins s σ H xs us Q I r h;obtain⟨p,ys,rfl,h⟩:=h;obtain⟨u,rfl,rx⟩:=vals1 r;cases rx;rcases h with⟨J,q⟩|⟨J,q⟩
 .obtain⟨its,U,pl,hz⟩:=I.list J;have hlen:=U.length;refine call_tuple_list pl.isList (λ h' kp=>?_) (by simp_all);have I1:Inv X pins σ H { s with heap:=h' }:=I.kept (t':=s.toks) kp;have I2:Inv X pins σ (upd H h'.objs.size (.tup ys)) { s with heap:=h'.push { cls:= .type "tuple",data:= .seq its.toArray } }:=
   I1.laid (t':=s.toks) (λ b o e=>Heap.get?_push_of_some _ e) (Nat.le_refl _) (show d8 X.prog X.w _ _ _ (.tup ys)from⟨hz,its,U,vY.new _ _⟩);exact⟨.ref h'.objs.size,_,I2,rfl,q _ (I1.hok.fresh (Nat.le_refl _))⟩
 .obtain⟨its,U,pl,hz⟩:=I.tuple J;exact call_tuple_same pl ⟨.ref p,H,I,rfl,q⟩
noncomputable def P8(K:PySem.W.Frag)(T:String)(x:V)(H:Hp):Prop:=match x with
 | .str _=>T="str"
 | .int _=>T="int"
 | .ref p=>(T="list"/\ ∃xs,jr K H p xs)\/(T="tuple"/\ ∃o,K.lookup p=some o/\o.cls= .type "tuple"/\o.dict=none)\/
   (T="dict"/\((∃kvs,H p=some (.dK kvs))\/ ∃kvs,H p=some (.dT kvs)))\/(T="set"/\ ∃S n,H p=some (.set S n))
 |_=>False
theorem IL{σ:St}{H:Hp}{s:Shared}{T:String}{x:V}{v:Value}(I:Inv X pins σ H s)(r:RelV x v)(ty:P8 X.K T x H):
  s.TypeIs v T/\ ∀a,v= .ref a-> ∃ob,s.heap.get? a=some ob/\ob.dict=none:=by cases x with
 |str z=>obtain⟨t,rfl⟩:=r;cases(show T="str" from ty);exact⟨typeIs_str s z t,λ _ e=>nomatch e⟩
 |int i=>obtain⟨t,rfl⟩:=r;cases(show T="int" from ty);exact⟨typeIs_int s i t,λ _ e=>nomatch e⟩
 |ref p=>
  cases r;rcases ty with⟨rfl,xs,hq⟩|⟨rfl,o,J,hc,hd⟩|⟨rfl,J⟩|⟨rfl,S,n,J⟩
  .obtain⟨its,_,pl,_⟩:=I.list hq;refine⟨pl.isList.typeIs,λ a e=>?_⟩;obtain⟨o,n,e,c,hd,_⟩:=pl;simp_all
  .refine⟨⟨o,I.kIn p o J,hc⟩,λ a e=>?_⟩;cases e;exact⟨o,I.kIn _ o J,hd⟩
  .have z: ∃o,s.heap.get? p=some o/\o.ExactDict:=by
    rcases J with⟨kvs,J⟩|⟨kvs,J⟩
    .obtain⟨_,_,_,_,o,_,_,e,ex,_⟩:=I.hok p _ J;exact⟨o,e,ex⟩
    .obtain⟨_,_,_,_,o,_,_,e,ex,_⟩:=I.hok p _ J;exact⟨o,e,ex⟩
   obtain⟨o,e,ex⟩:=z;refine⟨⟨o,e,ex.1⟩,λ a U=>?_⟩;cases U;exact⟨o,e,ex.2.1⟩
  .obtain⟨o,_,_,_,e,ex,_⟩:=I.hok p _ J;refine⟨⟨o,e,ex.1⟩,λ a U=>?_⟩;cases U;exact⟨o,e,ex.2.1⟩
 |_=>exact False.elim ty
noncomputable def OG(K:PySem.W.Frag)(T:String)(r:V->List V->Hp->VK->Prop)(to:TE)(t:TA):TE:= λ σ H Q=>to σ H λ x H1=>P8 K T x H1/\t σ H1 λ xs H2=>r x xs H2 Q
variable {o e:Expr} {es:List Expr} {to:TE} {t:TA} {name:Str} {apos cpos:Pos} {T id:String} {r:V->List V->Hp->VK->Prop}
theorem yw(pa:PlainAttrs T)(slot:Slot T name id)(ae:typeOf (.builtin id)=pure (.type "method_descriptor"))(hm:Qx X id r)(ho:PE X o to)(ha:PA X (e::es) t)
  (J:attributeBase o name X.env (eval o X.env)=eval o X.env:=by rfl)
  (aa:((backTo cpos (starEach (e::es) X.env)).all (λ x=> !x.1)&&(backToKw cpos (keywordEach [] X.env)).all (λ x=>x.1.isSome)
   &&decide ((e::es).length+([]:List Keyword).length+(if([]:List Keyword).isEmpty then 0 else 1)<30))=true:=by rfl)
  (U:(apos.endLine==cpos.line)=true:=by rfl)(hs:starEach (e::es) X.env=(false,eval e X.env)::starEach es X.env:=by rfl)(ab:(backTo cpos (starEach es X.env)).any (·.1)=false:=by rfl):
  PE X (.Call (.Attribute o name apos) (e::es) [] cpos) (OG X.K T r to t):=by intro pins s σ H Q I h;refine wpAny_Call_method_late J aa U rfl (c_ (ho pins s σ H _ I h) λ v s1 ⟨x,H1,I1,r1,ty,q1⟩=>?_);obtain⟨h1,h2⟩:=IL I1 r1 ty;refine⟨T,id,pa,slot,ae,h1,h2,?_⟩;have hA:=ha cpos pins s1 σ H1 _ I1 q1;rw[hs]at hA|-;refine Calls.callWith_builtin (by grind) (Calls.evalArgs_plain ?_);exact c_ hA λ us s2 ⟨vs,H2,I2,r2,q2⟩=>hm pins s2 σ H2 x vs v us Q I2 r1 r2 q2
end
noncomputable def OT(X:Cx)(id:String)(r:V->List V->Hp->VK->Prop):Prop:=
 ∀(pins:List (Addr×Obj))(s:Shared)(σ:St)(H:Hp)(x:V)(xs:List V)(v:Value)(us:List Value)(Q:VK),Inv X pins σ H s->RelV x v->Vals xs us->r x xs H Q->
  wpAny (model X.prog X.w) X.A (call (.builtin id) (v::us)) (EP X pins σ Q) X.xe s
theorem Vals.one: ∀{x:V}{us:List Value},Vals [x] us-> ∃u,us=[u]/\RelV x u
 |_,_,.cons r .nil=>⟨_,rfl,r⟩
theorem Vals.two: ∀{x y:V}{us:List Value},Vals [x,y] us-> ∃u v,us=[u,v]/\RelV x u/\RelV y v
 |_,_,_,.cons r (.cons q .nil)=>⟨_,_,rfl,r,q⟩
theorem Vals.eraseIdx: ∀{xs:List V}{us:List Value}(i:Nat),Vals xs us->Vals (xs.eraseIdx i) (us.eraseIdx i)
 |_,_,_,.nil=> .nil
 |_,_,0,.cons _ t=>t
 |_,_,i+1,.cons r t=> .cons r (Vals.eraseIdx i t)
section
variable {X:Cx} {pins:List (Addr × Obj)} {σ:St} {H:Hp} {s:Shared} {l:Addr} {xs ys:List V}
theorem Inv.lset{its its':List Value}{n:Nat}{f:Array Value->Array Value}{t':Nat}(I:Inv X pins σ H s)(J:H l=some (.lst xs))
  (e:s.heap.get? l=some { cls:= .type "list",data:= .seq its.toArray n })(hf:f its.toArray=its'.toArray)(U:Vals ys its')(hz:ys.length<=sizeLine):
  Inv X pins σ (upd H l (.lst ys)) { s with heap:=s.heap.update l (Obj.mapSeq f),toks:=t' }:=by have q:=PySem.IsL.update e f;rw[hf]at q;refine I.write (x:=l) (e:=l) (by rw[J];exact trivial) (.inl rfl) (λ b' u hb hu=>(Heap.get?_update_other s.heap (Obj.mapSeq f) (Ne.symm hb)).trans hu) ⟨_,q⟩ ?_;exact⟨hz,its',_,U,q⟩
theorem Inv.lnew(I:Inv X pins σ H s)(J:Vals ys its)(hz:ys.length<=sizeLine):
  Inv X pins σ (upd H s.heap.objs.size (.lst ys)) { s with heap:=s.heap.push { cls:= .type "list",data:= .seq its.toArray },toks:=t' }:=
 I.laid (λ _ _ q=>Heap.get?_push_of_some _ q) (Nat.le_refl _) ⟨hz,its,0,J,Heap.get?_push_size _ rfl⟩
theorem Inv.fresh(I:Inv X pins σ H s):H s.heap.objs.size=none:=I.hok.fresh (Nat.le_refl _)
theorem Inv.lstM(I:Inv X pins σ H s)(J:H l=some (.lst xs)):xs.length<=sizeLine/\ ∃(its:List Value) (n:Nat),Vals xs its/\xs.length=its.length/\s.heap.get? l=some { cls:= .type "list",data:= .seq its.toArray n }:=by obtain⟨z,its,n,r,e⟩:=I.hok l _ J;exact⟨z,its,n,r,r.length,e⟩
end
section
variable {X:Cx}
noncomputable def Gv:V->List V->Hp->VK->Prop:= λ x vs H Q=> ∃l xs y,x= .ref l/\vs=[y]/\H l=some (.lst xs)/\xs.length<sizeLine/\Q .non (upd H l (.lst (xs++[y])))
theorem qa:OT X "list.append" Gv:=by intro pins s σ H x vs v us Q I U rv h;obtain⟨l,xs,y,rfl,rfl,J,hz,q⟩:=h;cases U;obtain⟨u,rfl,ru⟩:=rv.one;obtain⟨z,its,n,r,hl,e⟩:=I.lstM J;refine call_meets F.slot_list_append ⟨_,e,rfl⟩ F.entry_list_append (F.args_list_append_2 _ _) (PySem.list_append l its.toArray n u (by rw[List.size_toArray];omega)) ⟨e,?_⟩;refine⟨.non,_,I.lset (its':=its++[u]) J e (by simp) (r.append (.cons ru .nil)) ?_,rfl,q⟩;grind
noncomputable def Ki:V->List V->Hp->VK->Prop:= λ x vs H Q=> ∃l xs i k y,x= .ref l/\vs=[.int i]/\H l=some (.lst xs)/\ -(2^63)<=i/\i<2^63/\seqIndex? i xs.length=some k/\xs[k]?=some y/\Q y (upd H l (.lst (xs.eraseIdx k)))
theorem Av:OT X "list.pop" Ki:=by
 intro pins s σ H x vs v us Q I rx rv h;obtain⟨l,xs,i,k,y,rfl,rfl,U,h1,h2,hk,hy,q⟩:=h;cases rx;obtain⟨u,rfl,ru⟩:=rv.one;obtain⟨t,rfl⟩:=ru;obtain⟨z,its,n,r,hl,e⟩:=I.lstM U;obtain⟨w,hw,J⟩:=r.get hy;refine call_meets F.slot_list_pop ⟨_,e,rfl⟩ F.entry_list_pop (F.args_list_pop_2 _ _)
  (MeetsSeq.list_pop_at l its.toArray n i t k w (fitsIndex_both h1 h2) (by rw[List.size_toArray,<- hl];exact hk) (by rw[<- Array.getElem?_toList];exact hw) (by rw[List.size_toArray];omega)) ⟨e,?_⟩;refine⟨y,_,I.lset (its':=its.eraseIdx k) U e ?_ (r.eraseIdx k) ?_,J,q⟩;. rw[List.eraseIdxIfInBounds_toArray]
 grind
end
section
set_option maxRecDepth 100000 in
end
end L2
namespace Att
open PySem PySem.W PySem.Calls PyProof.Rows
theorem lK: ∀(ns:List Int)(vs:List Value),WellAll P h vs (ns.map WData.int)->IntsAre vs ns:=by intro ns;induction ns with
 |nil=>intro vs w;cases w;exact .nil
 |cons n ns I=>intro vs w;cases w with
  |cons a b=>cases a;exact .cons _ _ (I _ b)
theorem script_of{l:OpenLaw}{n:Nat}(hn:l.most=some n){P:Params}{h:Heap}{args:List WData}{vals:List Value}
  (I:l.row.toRowW.claim.pre args=true)(aa:WellAll P h vals args):
  ∃a vs ns,vals=[Value.ref a]/\args=[WData.list (ns.map WData.int)]/\h.get? a=some { cls:= .type "list",data:= .seq vs.toArray }/\IntsAre vs ns/\ns.length<=n:=by
 have ab:WShape.hasAll [] args [.list .int]=true:=(pre_splitW I).1;have hc:l.pre.holds [] { args:=args }=true:=(pre_splitW I).2;obtain⟨d,r,rfl,h1,h2⟩:=hasAllW_cons ab;obtain rfl:=hasAllW_nil h2;obtain⟨xs,rfl,h3⟩:=hasW_list h1;obtain⟨ns,rfl⟩:=items_int h3;have hlen:ns.length<=n:=by
  have U:(WTm.not (.lt (.lit (.int n)) (.len (.arg 0)))).holds [] { args:=[.list (ns.map .int)] }=true:=by have U:=(holds_andW hc).1;rw[hn]at U;exact U
  have h5:=condW_of U (w_not (w_lt w_lit (w_len_list (w_arg rfl))));simp_all
 cases aa with
 |cons w1 w2=>cases w2;cases w1 with
  |list ho J=>exact⟨_,_,ns,rfl,rfl,ho,lK ns _ J,hlen⟩
theorem post_true(l:OpenLaw)(args:List WData):l.row.toRowW.claim.post args (.bool true) args=true:=
 postW_of (r:=l.row.toRowW) (X:=(true==true))
  (show WShape.has [] (.bool true) .bool=true by rfl)
  (show(WTm.eq .res (.lit (.bool true))).value [] { args:=args,res:=some (.bool true),after:=args }=some (.bool (true==true))from w_eq_bool (w_res rfl) w_lit) rfl
end Att
namespace L2
open PySem PySem.Spec PyProof.Rows
theorem i_: ∀{vs:List Value}{ns:List Int},IntsAre vs ns->Vals (ns.map V.int) vs
 |_,_,.nil=> .nil
 |_,_,.cons n t h=> .cons ⟨t,rfl⟩ (i_ h)
noncomputable def N4(H:Hp):Prop:= ∀b,H b=none\/ ∃o xs,H b=some (.frz o (.lst xs))
theorem AR{K:PySem.W.Frag}{mg mb:Str->Option Value}{CX:zY}{k:Nat}{fa a:Addr}{fd:FuncData}{x:Str}{sp:Sp}{I:Shared}{vs:List Value}{ns:List Int}
  (KX:K.In I.heap)(af:I.heap.Ns mainGlobals mg)(U:I.heap.Ns builtinsNs mb)(ao: ∀x:Str,x≠"__name__"->mb x=bootBuiltins x)(ag:I.heap.NoLimit)(hg:I.gens=#[])
  (ha:I.heap.get? a=some { cls:= .type "list",data:= .seq vs.toArray })(hi:IntsAre vs ns)(hl:ns.length<=sizeLine)(hr:cX k callerA)
  (F: ∀base:Heap,K.In base->base.Ns mainGlobals mg->eD P w K mg base CX k fa fd [x] sp)(ab: ∀(s:Shared)(u:Value),BindsTo s fd ⟨[u],[]⟩ [(x,u)])
  (ae:PySem.W.tabIn K v8=none)
  (aq: ∀H:Hp,N4 H->jr K H a (ns.map V.int)->sp [.ref a] H (λ v _=>v= .bl true) λ _ _ _=>False)
  (ar: ∀H e s',CX [] H I (λ _ _ _=>False) e s'->False):
  codeAny (model P w) callerA (.call (.ref fa) ⟨[.ref a],[]⟩) (λ r s'=>r= .ok (.ret (.bool true))/\OldK I.heap s'.heap/\s'.os=I.os/\AllBare s'.gens) I:=by
 have rv:=i_ hi;have ah:=hi.length
 have core: ∀H:Hp,N4 H->jr K H a (ns.map V.int)->lh P w H I.heap->(∀b,H b≠none->b=a)->(H a≠none->K.lookup a=none)->
   codeAny (model P w) callerA (.call (.ref fa) ⟨[.ref a],[]⟩) (λ r s'=>r= .ok (.ret (.bool true))/\OldK I.heap s'.heap/\s'.os=I.os/\AllBare s'.gens) I:=by
  intro H hO hS ai hA hK;have J: ∀{b:Addr}{o:Obj},I.heap.get? b=some o->H b=none->(qN I.heap H).get? b=some o:= λ e n=>Cw e n;have au: ∀{b:Addr}{o:Obj}{es:Array DictEntry}{ep:Nat},I.heap.get? b=some o->o.data= .dict es ep->H b=none:= λ{b o es ep} e d=>by grind
  have aa: ∀{b:Addr}{m:Str->Option Value},I.heap.Ns b m->(qN I.heap H).Ns b m:= λ{b m}⟨o,es,ep,e,d,r⟩=>⟨o,es,ep,J e (au e d),d,r⟩;have aj:K.In (qN I.heap H):= λ b o e=>J (KX b o e) (by cases q:H b with
   |none=>rfl
   |some u=>
    have e':b=a:=hA b (by rw[q];simp);subst e';rw[hK (by rw[q];simp)]at e;cases e);have hM:Mod K mg (qN I.heap H):=⟨aj,aa af,⟨mb,aa U,ao⟩,let⟨mc,h1,h2⟩:=ag;⟨mc,aa h1,h2⟩⟩;have e0:zx P w K mg (qN I.heap H) callerA [] I H:=⟨rfl,hM,λ b o e=>E3 e,Nat.le_of_eq (ze _ _),trivial,λ b U=>absurd (show b∈([]:List Addr)from U) (by simp),ai,.of_eq hg,λ c P e=>by rw[ae]at e;cases e⟩;refine codeAny_mono ((F _ aj (aa af)).run callerA [] I H ⟨[.ref a],[]⟩ [.ref a] [.ref a] _ _ hr e0 (ab I (.ref a)) (.cons rfl .nil) (aq H hO hS)) λ r s' h=>?_;cases r with
  |error e=>exact(ar H e s' h).elim
  |ok fl=>cases fl with
   |next=>exact False.elim h
   |brk=>exact False.elim h
   |cont=>exact False.elim h
   |ret u=>
    obtain⟨v,H',os,bare,un,ak,r',q⟩:=h;have q':v= .bl true:=q;subst q';obtain rfl:u=Value.bool true:=r';refine⟨rfl,OldK.of_keep λ b o e=>?_,os,bare⟩;cases q:H b with
    |none=>exact un.keep b o e q (by intro z;exact absurd (show b∈([]:List Addr)from z) (by simp)) (by simp)
    |some u=>
     rcases hO b with z|⟨ob,xs,z⟩
     .rw[q]at z;cases z
     .have z2:=un.frzs b ob _ z;obtain⟨e1,_⟩:=ai b _ z;obtain⟨e2,_⟩:=ak b _ z2;rw[e]at e1;cases e1;exact e2
 cases hk:K.lookup a with
 |some o=>
  have e:=KX a o hk;rw[ha]at e;cases e;exact core (λ _=>none) (λ _=> .inl rfl) (.inr ⟨_,vs.toArray,_,hk,rfl,rfl,rfl,by rw[List.size_toArray,ah];exact hl,by simpa using rv⟩) (λ b u z=>by have z':none=some u:=z;cases z') (λ b z=>absurd rfl z) λ z=>absurd rfl z
 |none=>
  refine core (λ b=>if b=a then some (.frz { cls:= .type "list",data:= .seq vs.toArray } (.lst (ns.map V.int)))else none) (λ b=>?_) (.inl (.inr ⟨{ cls:= .type "list",data:= .seq vs.toArray },if_pos rfl⟩)) (λ b u z=> ?_) (λ b z=>?_) λ _=>hk
  .by_cases U:b=a;. exact .inr ⟨_,_,if_pos U⟩
   .exact .inl (if_neg U)
  .by_cases U:b=a;. have z':=(if_pos U).symm.trans z;cases z';subst U;exact ⟨ha,by rw [List.length_map];exact hl,vs,_,rv,ha⟩
   .have z':=(if_neg U).symm.trans z;cases z'
  grind
noncomputable def fH(s:Stmt):Arguments:=match s with
 | .FunctionDef _ a _ _ _ _ _ _ _ _=>a
 |_=>{ posonlyargs:=[],args:=[],vararg:=none,kwonlyargs:=[],kw_defaults:=[],kwarg:=none,defaults:=[] }
noncomputable def cq(s:Stmt):List Stmt:=match s with
 | .FunctionDef _ _ b _ _ _ _ _ _ _=>b
 |_=>[]
noncomputable def aW(s:Stmt):Scope:=match s with
 | .FunctionDef _ _ _ _ _ _ sc _ _ _=>sc
 |_=>{ kind:= .function,names:=[],isGenerator:=false,isCoroutine:=false }
noncomputable abbrev dF:zY:= λ _ _ _ _ _ _=>False
noncomputable abbrev E0:XK:= λ _ _ _=>False
theorem Bc:Passes dF X E0:= λ _ _ _ _ _ _ _ h=>h.elim
structure zZ (K:PySem.W.Frag) (x qual:Str) (st:Stmt) (f:Addr) (fd:FuncData):Prop where
 ex:∃ (oc:Value) (od:Option Addr) (kV doc pm:Value) (an:Option Addr) (cdv ct:Value) (osl:Array (Option Value)),
  fd=PySem.W.fnOf x qual (fH st) (cq st) (aW st) .none kV doc pm an cdv ct∧K.lookup f=some ⟨oc,od,.func fd,osl⟩∧PySem.W.codeIn K cdv qual=true
 kp:PySem.W.keepIn K (.ref f)=true
section
variable {P:Program} {w:World} {K:PySem.W.Frag} {mg:Str->Option Value} {base:Heap}
theorem zZ.ok{st:Stmt}{f:Addr}{fd:FuncData}{N ps:List Str}{k:Nat}{sp:Sp}(F:zZ K x qual st f fd)(S:bf N ps (aW st))(len: ∀vs H Q E,sp vs H Q E->vs.length=ps.length)
  (I: ∀(cdv:Value)(A:Around)(outer:List Env)(s:Shared)(H:Hp)(vs:List V)(Q:VK)(E:XK),cX k (A.deeper (envOfC qual (aW st) s.heap.objs.size f cdv))->sp vs H Q E->
   ∃t,oI (ir dF P w K mg base N qual (aW st) f cdv A outer s H E).nox (cq st) t/\t { nx:= λ _ H'=>Q .non H',rt:=Q } (start N vs) H):eD P w K mg base dF (k+1) f fd ps sp:=by obtain⟨oc,od,kV,doc,pm,an,cdv,ct,aa,rfl,lk,J⟩:=F.ex;refine HA lk J S len λ A outer s H vs Q E hr U=>?_;obtain⟨t,h,q⟩:=I cdv A outer s H vs Q E hr U;exact⟨t,h.nox,q⟩
theorem zZ.binds{st:Stmt}{f:Addr}{fd:FuncData}{ps:List Str}(F:zZ K x qual st f fd)
  (h: ∀(kV doc pm:Value)(an:Option Addr)(cdv I:Value)(us:List Value),us.length=ps.length->bindArgs (PySem.W.fnOf x qual (fH st) (cq st) (aW st) .none kV doc pm an cdv I) ⟨us,[]⟩=pure (ps.zip us)):Binds K fd ps []:=by obtain⟨oc,od,kV,doc,pm,an,cdv,I,J,rfl,lk,U⟩:=F.ex;exact .all (h kV doc pm an cdv I)
theorem vF{st:Stmt}{f:Addr}{U:Value}{od an:Option Addr}{I:Array (Option Value)}{kV doc pm cdv J:Value}(l:K.lookup f=some ⟨U,od,.func (PySem.W.fnOf x qual (fH st) (cq st) (aW st) .none kV doc pm an cdv J),I⟩)
  (c:PySem.W.codeIn K cdv qual=true)(k:PySem.W.keepIn K (.ref f)=true):zZ K x qual st f (PySem.W.fnOf x qual (fH st) (cq st) (aW st) .none kV doc pm an cdv J):=⟨⟨U,od,kV,doc,pm,an,cdv,J,I,rfl,l,c⟩,k⟩
end
theorem PV{A B:Prop}(h:B):if false=true then A else B:=by grind
theorem PB{A B:Prop}(h:A):if true=true then A else B:=by grind
noncomputable def jO(H H':Hp):Prop:= ∀b o,H b=some o->H' b=some o
end L2
namespace L2
open PySem
theorem qP{elt target iter:Expr}{ifs:List Expr}{scope:Scope}{pos:Pos}{it acc:Value}{env:Env}(I:Nat->Shared->Prop)
  (turn: ∀n s,I n s->wpAny (model prog w) A (pyNext it) (λ r s1=>match r with
   |none=>R (.ok .next) s1
   |some v=>wpAny (model prog w) A (letOwnedTupleGo target it v) (λ _ s2=>wpAny (model prog w) A (assign target env v) (λ _ s3=>
     wpAny (model prog w) A (forIn ifs true λ c r=>if r=true then do let ok<- isTrue c env (eval c env);pure (ForInStep.yield ok)else pure (ForInStep.yield r)) (λ ok s4=>
      if ok=true then wpAny (model prog w) A (eval elt env) (λ x s5=>
       wpAny (model prog w) A (call (.builtin "list.append") [acc,x]) (λ _ s6=> ∃m,m<n/\I m s6) (λ _ _=>False) s5) (λ _ _=>False) s4
      else∃m,m<n/\I m s4) (λ _ _=>False) s3) (λ _ _=>False) s2) (λ _ _=>False) s1) (λ _ _=>False) s)
  (n:Nat)(h:I n s):
  codeAny (model prog w) A (.compLoop (.ListComp elt [⟨target,iter,ifs,0⟩] scope pos) 0 it acc env) R s:=by refine codeAny_loop rfl I (λ n s hI=>?_) n h;show wpAny _ A ((compTurn (.ListComp elt [⟨target,iter,ifs,0⟩] scope pos) 0 it acc env).onRaise (λ x=>do noteFrame x env;theTreesLotGoes x)) _ _ s;refine wpAny_noted ?_;rw[compTurn_list];refine wpAny_bind (wpAny_standAt (wpAny_bind (wpAny_mono (turn n s hI) (λ r ae o=>?_) λ _ _ h'=>h'.elim)));cases r with
 |none=>exact wpAny_pure o
 |some v=>refine wpAny_bind (wpAny_mono o (λ _ af J=>?_) λ _ _ h'=>h'.elim);refine wpAny_bind (wpAny_mono J (λ _ ag U=>wpAny_bind (wpAny_mono U (λ ok ah C=>?_) λ _ _ h'=>h'.elim)) λ _ _ h'=>h'.elim);cases ok with
  |false=>exact wpAny_pure ⟨rfl,C⟩
  |true=>exact wpAny_bind (wpAny_bind (wpAny_mono C (λ x ai aa=>wpAny_bind (wpAny_mono aa (λ _ aj ab=>wpAny_pure (wpAny_pure ⟨rfl,ab⟩)) λ _ _ h'=>h'.elim)) λ _ _ h'=>h'.elim))
noncomputable def jI(cells:List (Str×Addr)):List (Str×NameKind)->List (Str×Addr)->List (Str×Addr)
 |[],acc=>acc
 |(n,k)::r,acc=>if k== .free then(match cells.lookup n with|some c=>jI cells r ((n,c)::acc)|none=>jI cells r acc)else jI cells r acc
theorem oM(h: ∀n,(n,NameKind.free)∈scope.names-> ∃c,env.cells.lookup n=some c):closureFor scope env=pure (jI env.cells scope.names []):=by
 have gen: ∀(names:List (Str×NameKind))(acc:List (Str×Addr)),(∀n,(n,NameKind.free)∈names-> ∃c,env.cells.lookup n=some c)->
   (forIn names acc (λ x r=>match x with
    |(name,kind)=>if(kind== .free)=true then do let a<- cellOf env name;pure (ForInStep.yield ((name,a)::r))else pure (ForInStep.yield r)):Sem (List (Str×Addr)))=pure (jI env.cells names acc):=by intro names;induction names with
  |nil=>intro acc _;rfl
  |cons x r C=>
   intro acc hx;obtain⟨n,k⟩:=x;rw[List.forIn_cons];unfold jI;by_cases I:(k==NameKind.free)=true
   .have e:k= .free:=by simpa using I
    subst e;obtain⟨c,o⟩:=hx n List.mem_cons_self;dsimp only;rw[o];have:cellOf env n=pure c:=by unfold cellOf;rw[o]
    rw[this];exact C _ λ m hm=>hx m (List.mem_cons_of_mem _ hm)
   grind
 unfold closureFor;grind
theorem kg: ∀{names:List (Str×NameKind)}{acc:List (Str×Addr)}{x:Str}{c:Addr},(x,c)∈jI cells names acc->(x,c)∈acc\/(cells.lookup x=some c/\(x,NameKind.free)∈names)
 |[],_,_,_,h=> .inl h
 |(n,k)::r,acc,x,c,h=>by
  unfold jI at h;split at h
  .rename_i I;have e:k=NameKind.free:=by simpa using I
   subst e;split at h
   .rename_i d hd;rcases kg h with h|⟨o,C⟩
    .rcases List.mem_cons.mp h with e|h
     .cases e;exact .inr ⟨hd,List.mem_cons_self⟩
     .exact .inl h
    simp_all
   .rcases kg h with h|⟨o,C⟩
    .exact .inl h
    .exact .inr ⟨o,List.mem_cons_of_mem _ C⟩
  .rcases kg h with h|⟨o,C⟩
   .exact .inl h
   .exact .inr ⟨o,List.mem_cons_of_mem _ C⟩
theorem jg: ∀{names:List (Str×NameKind)}{acc:List (Str×Addr)}{x:Str},((x,NameKind.free)∈names/\(cells.lookup x).isSome=true)\/(acc.lookup x).isSome=true->((jI cells names acc).lookup x).isSome=true
 |[],_,_,h=>h.elim (λ z=>nomatch z.1) id
 |(n,k)::r,acc,x,h=>by
  unfold jI;by_cases o:(k==NameKind.free)=true;. rw[if_pos o];cases hd:cells.lookup n with
   |none=>refine jg ?_;grind
   |some d=>refine jg ?_;grind
  .rw[if_neg o];refine jg ?_;rcases h with⟨C,I⟩|h
   .rcases List.mem_cons.mp C with e|C
    .cases e;simp at o
    .exact .inl ⟨C,I⟩
   .exact .inr h
theorem dZ: ∀(names:List (Str×NameKind))(n:Nat)(acc:List (Str×Addr)),cellsFrom n names acc=cellsFrom n names []++acc
 |[],_,_=>rfl
 |(x,k)::r,n,acc=>by
  unfold cellsFrom;split;. rw[dZ r (n+1) ((x,n)::acc),dZ r (n+1) [(x,n)],List.append_assoc];rfl
  .exact dZ r n acc
theorem fY: ∀(names:List (Str×NameKind))(n:Nat)(x:Str)(c:Addr),(x,c)∈cellsFrom n names []->(x,NameKind.cell)∈names
 |[],_,_,_,h=>nomatch h
 |(y,k)::r,n,x,c,h=>by
  unfold cellsFrom at h;split at h
  .rw[dZ]at h;rcases List.mem_append.mp h with h|h
   .exact List.mem_cons_of_mem _ (fY r (n+1) x c h)
   simp_all
  .exact List.mem_cons_of_mem _ (fY r n x c h)
theorem ue{s:Shared}{scope:Scope}{globals:Addr}{cl:List (Str×Addr)}{qual:Str}{outer:Env}{Q:Env->Shared->Prop}
  (o:Q (newEnv scope s.heap.objs.size globals (cellsFrom (s.heap.objs.size+1) scope.names cl) qual none .none (some outer) builtinsNs) { s with heap:=pushCells (s.heap.push { cls:= .type "dict",data:= .dict #[] }) scope.names }):
  wpAny M A (newFunctionEnv scope globals cl [] qual none .none (some outer)) Q E s:=by simp only[newFunctionEnv,Option.isSome_some,if_true];refine wpAny_bind (wpAny_alloc ?_);refine wpAny_bind (wpAny_layCells _ (λ name kind cells=>by rfl) _ _ _ _ ?_);rw[show({ s with heap:=s.heap.push { cls:= .type "dict",data:= .dict #[] } }:Shared).heap.objs.size=s.heap.objs.size+1 from Heap.size_push ..];exact wpAny_bind (wpAny_pure (wpAny_pure o))
end L2
namespace L2
open PySem PySem.Spec PyProof.Rows
noncomputable def iC(N own:List Str)(o scope:Scope):Bool:=
 scope.names.all (λ x=> !(x.2== .local)||(scope.names.lookup x.1==some .local))&&
 (scope.names.all (λ x=> !(x.2== .free)||(o.names.lookup x.1==some .cell||o.names.lookup x.1==some .free))&&
 (scope.names.all (λ x=> !(x.2== .local||x.2== .cell)|| !(N.contains x.1))&&
 (own.all (λ x=>scope.names.all λ y=> !(y.1==x)|| !(y.2== .free))&&
 scope.names.all (λ x=> !(x.2== .free)||scope.names.all λ y=> !(y.1==x.1)||(y.2== .free)))))
structure vy (N own:List Str) (sc0 scope:Scope):Prop where
 loc:∀ x ∈ scope.names,x.2=.local->scope.names.lookup x.1=some .local
 free:∀ n,(n,NameKind.free) ∈ scope.names->sc0.names.lookup n=some .cell ∨ sc0.names.lookup n=some .free
 out:∀ n k,(n,k) ∈ scope.names->(k=.local ∨ k=.cell)->n ∉ N
 own:∀ x ∈ own,(x,NameKind.free) ∉ scope.names
 one:∀ n k,(n,NameKind.free) ∈ scope.names->(n,k) ∈ scope.names->k=.free
theorem yX(h:iC N own C scope=true):vy N own C scope:=by
 unfold iC at h;simp only[Bool.and_eq_true,List.all_eq_true,Bool.or_eq_true,Bool.not_eq_true',beq_iff_eq,Bool.or_eq_false_iff]at h;obtain⟨U,h2,h3,h4,h5⟩:=h;refine⟨λ x hx e=>?_,λ n o=>?_,λ n k o e hN=>?_,λ x hx o=>?_,λ n k o hk=>?_⟩
 .rcases U x hx with z|z
  .rw[e]at z;simp at z
  .exact z
 .rcases h2 _ o with z|z
  .simp at z
  .exact z
 .rcases h3 _ o with⟨I,J⟩|z
  .rcases e with e|e
   .rw[e]at I;simp at I
   .rw[e]at J;simp at J
  .have:N.contains n=true:=by simpa using hN
   rw[this]at z;cases z
 .rcases h4 x hx _ o with z|z
  .simp at z
  .simp at z
 grind
noncomputable def i0(N N':List Str)(scope:Scope):Bool:=(N'.length==N.length)&&(N'.zip N).all λ p=>p.1==p.2||(scope.names.lookup p.1).isNone
structure Ar (N N':List Str) (scope:Scope):Prop where
 len:N'.length=N.length
 same:∀ (i:Nat) x,N'[i]? = some x->N[i]? = some x ∨ scope.names.lookup x=none
theorem yF(h:i0 N N' scope=true):Ar N N' scope:=by
 unfold i0 at h;simp only[Bool.and_eq_true,beq_iff_eq,List.all_eq_true,Bool.or_eq_true,Option.isNone_iff_eq_none]at h;refine⟨h.1,λ i x e=>?_⟩;have C:i<N'.length:=(List.getElem?_eq_some_iff.mp e).1;have o:i<N.length:=by rw[<- h.1];exact C
 have I:(N'.zip N)[i]?=some (x,N[i]):=by rw[List.getElem?_zip_eq_some];exact⟨e,List.getElem?_eq_getElem o⟩
 grind
noncomputable def blk(X:Cx)(N' own:List Str)(scope:Scope)(s:Shared)(H:Hp)(fp:List Addr)(pins:List (Addr×Obj)):Cx where
 prog:=X.prog
 w:=X.w
 K:=X.K
 mg:=X.mg
 base:=X.base
 A:=X.A
 N:=N'++own
 s₀:=s
 H₀:=H
 env:={ newEnv scope s.heap.objs.size X.env.globals (cellsFrom (s.heap.objs.size+1) scope.names (jI X.env.cells scope.names [])) X.env.qual none .none (some X.env) builtinsNs with scope:=relabel scope X.env }
 outer:=X.stack
 stack:=X.stack
 ex:=fp
 fn:= λ x=>own.contains x
 calm:=X.calm
 pn:=X.pn++pins
 xe:= λ _ _=>False
theorem iG{env:Env}: ∀{names:List (Str×NameKind)}{x:Str},
  (names.map λ(n,k)=>if(k==NameKind.free&&env.scope.kind== .function&&env.kindOf n==some .cell)then(n,NameKind.cell)else(n,k)).lookup x=
   (names.lookup x).map λ k=>if(k==NameKind.free&&env.scope.kind== .function&&env.kindOf x==some .cell)then NameKind.cell else k
 |[],_=>rfl
 |(n,k)::r,x=>by have o:=@iG env r x;grind
theorem dH(h:(relabel scope env).names.lookup x=some o): ∃k,scope.names.lookup x=some k/\(o=k\/(k= .free/\o= .cell)):=by have h':(scope.names.map λ(n,k)=>if(k==NameKind.free&&env.scope.kind== .function&&env.kindOf n==some .cell)then(n,NameKind.cell)else(n,k)).lookup x=some o:=h;rw[iG]at h';cases e:scope.names.lookup x with
 |none=>grind
 |some k=>grind
section
variable {X:Cx} {pins:List (Addr × Obj)} {σ:St} {H:Hp} {s:Shared} {N' own:List Str} {scope:Scope} {fp:List Addr}
theorem qu(I:Inv X pins σ H s)(S:vy N' own X.env.scope scope): ∀x c,(cellsFrom (s.heap.objs.size+1) scope.names (jI X.env.cells scope.names [])).lookup x=some c->
  ((x,c)∈cellsFrom (s.heap.objs.size+1) scope.names []/\(pushCells (s.heap.push { cls:= .type "dict",data:= .dict #[] }) scope.names).IsCell c none/\s.heap.objs.size+1<=c/\(x,NameKind.cell)∈scope.names)\/
   (X.env.cells.lookup x=some c/\(x,NameKind.free)∈scope.names/\c<s.heap.objs.size):=by
 intro x c h;have ok:=cellsFrom_ok scope.names (s.heap.push { cls:= .type "dict",data:= .dict #[] }) (s.heap.objs.size+1) [] ⟨λ _ _ hm=>(nomatch hm),List.Pairwise.nil⟩ (by simp);rw[Heap.size_push]at ok;have hm:=mem_of_lookup h;rw[dZ]at hm;rcases List.mem_append.mp hm with hm|hm
 .exact .inl ⟨hm,(ok.empty x c hm).1,(ok.empty x c hm).2,fY _ _ _ _ hm⟩
 .rcases kg hm with z|⟨o,C⟩
  .exact nomatch z
  .obtain⟨v,q⟩:=I.cell x c o;exact .inr ⟨o,C,q.lt⟩
theorem Inv.blkKeep{s:Shared}{scope:Scope}: ∀(b:Addr)(o:Obj),s.heap.get? b=some o->(pushCells (s.heap.push { cls:= .type "dict",data:= .dict #[] }) scope.names).get? b=some o:= λ b o e=>
 pushCells_keeps _ _ b o (Heap.get?_push_of_some _ e)
theorem Inv.blk(I:Inv X pins σ H s)(hf: ∀b∈fp,jA X pins H b)(ho: ∀b∈fp,b<s.heap.objs.size)(hk:scope.kind= .function)(S:vy N' own X.env.scope scope)(Mk:Ar X.N N' scope):
  Inv (blk X N' own scope s H fp pins) [] (σ++List.replicate own.length none) H { s with heap:=pushCells (s.heap.push { cls:= .type "dict",data:= .dict #[] }) scope.names }:=by
 have C:=qu I S;have keep:=@Inv.blkKeep s scope;have aa: ∀x,((relabel scope X.env).names.lookup x=some .cell\/(relabel scope X.env).names.lookup x=some .free)-> ∃c,(cellsFrom (s.heap.objs.size+1) scope.names (jI X.env.cells scope.names [])).lookup x=some c:=by
  intro x hx;have: ∃k,scope.names.lookup x=some k/\(k= .cell\/k= .free):=by
   rcases hx with hx|hx
   .obtain⟨k,e,z⟩:=dH hx;rcases z with z|⟨z,_⟩
    .exact⟨k,e,.inl z.symm⟩
    .exact⟨k,e,.inr z⟩
   .obtain⟨k,e,z⟩:=dH hx;rcases z with z|⟨z,_⟩
    .exact⟨k,e,.inr z.symm⟩
    .exact⟨k,e,.inr z⟩
  obtain⟨k,e,z⟩:=this;refine Option.isSome_iff_exists.mp (PySem.W.cellsFrom_some scope.names _ _ ?_);rcases z with z|z
  .subst z;exact .inl e
  .subst z;have hm:=mem_of_lookup e;obtain⟨c,hc⟩:=I.ok.has x (S.free x hm);exact .inr (jg (.inl ⟨hm,by rw[hc];rfl⟩))
 have sub: ∀b,b∈iR X.stack->b∈X.env.locals::X.fs:=I.stkSub;refine⟨⟨I.ok.mod,hk,I.ok.glob,I.ok.blt,Nat.le_refl _,λ x y c h1 h2=>?_,λ x hx=>aa x hx,λ x c hx h=>?_,I.ok.hd,I.ok.frames,.inl rfl,λ b hb=>⟨?_,λ x c h=>?_⟩,λ b o e=>I.bs b o e,?_,λ b o e hb=>?_,λ b hb hs=>?_,I.stack,I.stkFree,I.tb⟩,
  rfl,I.bare,Un.kept keep,⟨_,(Heap.Ns.new s.heap (.type "dict")).keeps (pushCells_keeps _ _),λ i x v h1 h2 J=>?_⟩,λ x c h=>?_,I.hok.fresh (Nat.le_refl _),λ x c h=>?_,λ p hp=>?_,I.hok.kept keep,?_⟩;. -- inj
  have ok:=cellsFrom_ok scope.names (s.heap.push { cls:= .type "dict",data:= .dict #[] }) (s.heap.objs.size+1) [] ⟨λ _ _ hm=>(nomatch hm),List.Pairwise.nil⟩ (by rw[Heap.size_push];exact Nat.le_refl _);rw[Heap.size_push]at ok;rcases C x c h1 with⟨a1,_,a3,_⟩|⟨a1,_,a3⟩ <;> rcases C y c h2 with⟨b1,_,b3,_⟩|⟨b1,_,b3⟩
  .exact name_of_addr ok.apart a1 b1
  .exact absurd b3 (Nat.not_lt.mpr (Nat.le_of_succ_le a3))
  .exact absurd a3 (Nat.not_lt.mpr (Nat.le_of_succ_le b3))
  .exact I.ok.inj x y c a1 b1
 .rcases C x c h with⟨_,_,a3,_⟩|⟨_,a2,_⟩
  .exact Nat.le_of_succ_le a3
  .have aj:own.contains x=true:=hx;exact absurd a2 (S.own x (by simpa using aj))
 .exact Nat.ne_of_lt (ho b hb)
 .rcases C x c h with⟨_,_,a3,_⟩|⟨a1,_,_⟩
  .intro z;subst z;exact absurd (ho _ hb) (Nat.not_lt.mpr (Nat.le_of_succ_le a3))
  .exact(hf b hb).2.2.2.2.1 x c a1
 .exact Nat.le_trans I.ok.bsz I.sz
 .rcases(hf b hb).2.2.2.1 with z|z
  .exact I.ok.noex b o e z
  .exact absurd (Heap.lt_size e) (Nat.not_lt.mpr (Nat.le_trans I.ok.bsz z))
 .rcases List.mem_cons.mp (sub b hs)with z|z
  .exact(hf b hb).2.1 z
  .exact(hf b hb).2.2.1 z
 .
  have hi:i<σ.length:=by
   by_cases hi:i<σ.length;. exact hi
   .rw[List.getElem?_append_right (by omega),List.getElem?_replicate]at h2;split at h2 <;> cases h2
  rw[List.getElem?_append_left hi]at h2;have ah:N'[i]?=some x:=by have:(N'++own)[i]?=some x:=h1;rwa [List.getElem?_append_left (by rw[Mk.len,<- I.len];exact hi)]at this
  have ab:x∈N':=List.mem_of_getElem? ah;have ae: ∃k,scope.names.lookup x=some k:=by rcases J with J|J|J <;> (obtain⟨k,e,_⟩:=dH J;exact⟨k,e⟩)
  have hN:X.N[i]?=some x:=by
   rcases Mk.same i x ah with z|z
   .exact z
   .obtain⟨k,e⟩:=ae;rw[z]at e;cases e
  have U:scope.names.lookup x=some .free/\((relabel scope X.env).names.lookup x=some .cell\/(relabel scope X.env).names.lookup x=some .free):=by
   rcases J with J|J|J
   .obtain⟨k,e,z⟩:=dH J;rcases z with z|⟨_,z⟩
    .exact absurd ab (S.out x k (mem_of_lookup e) (.inl z.symm))
    .cases z
   .obtain⟨k,e,z⟩:=dH J;rcases z with z|⟨z,_⟩
    .exact absurd ab (S.out x k (mem_of_lookup e) (.inr z.symm))
    .rw[z]at e;exact⟨e,.inl J⟩
   .obtain⟨k,e,z⟩:=dH J;rcases z with z|⟨z,_⟩
    .rw[<- z]at e;exact⟨e,.inr J⟩
    .rw[z]at e;exact⟨e,.inr J⟩
  have hm:=mem_of_lookup U.1;have af:=S.free x hm;obtain⟨m,hn,hl⟩:=I.loc;obtain⟨u,r,l⟩:=hl i x v hN h2 (.inr af);refine⟨u,r,.inr ⟨U.2,?_⟩⟩;rcases l with⟨k,_⟩|⟨_,c,hc,ag⟩
  .have k':X.env.scope.names.lookup x=some .local:=k;rw[k']at af;rcases af with z|z <;> cases z
  .obtain⟨c2,ai⟩:=aa x U.2;refine⟨c2,ai,?_⟩;rcases C x c2 ai with⟨_,_,_,a4⟩|⟨a1,_,_⟩
   .have:=S.one x _ hm a4;cases this
   .rw[hc]at a1;cases a1;exact ag.keeps keep
 .rcases C x c h with⟨_,a2,_,_⟩|⟨a1,_,_⟩
  .exact⟨_,a2⟩
  .obtain⟨v,q⟩:=I.cell x c a1;exact⟨v,q.keeps keep⟩
 .rcases C x c h with⟨_,_,a3,_⟩|⟨a1,_,_⟩
  .exact I.hok.fresh (by omega)
  .exact I.freeC x c a1
 .have ak:p∈X.pn++pins:=by
   rcases List.mem_append.mp hp with z|z
   .exact z
   .exact nomatch z
  obtain⟨e,n,ne,nf,d⟩:=I.pin p ak;refine⟨keep _ _ e,n,Nat.ne_of_lt (Heap.lt_size e),λ z=>?_,d⟩;rcases List.mem_cons.mp (sub p.1 z)with z|z
  .exact ne z
  grind
 .show(σ++List.replicate own.length none).length=(N'++own).length;rw[List.length_append,List.length_append,List.length_replicate,I.len,Mk.len]
theorem Inv.unblk(I:Inv X pins σ H s)(hf: ∀b∈fp,jA X pins H b){pins':List (Addr×Obj)}{C:St}{H':Hp}{s':Shared}(J:Inv (L2.blk X N' own scope s H fp pins) pins' C H' s'):Inv X pins σ H' s':=
 I.call' (ch:=fp) J.os J.base J.hok J.bare λ b o=>⟨(hf b o).2.2.2.1,(hf b o).2.1,(hf b o).2.2.2.2.1,(hf b o).2.2.2.2.2⟩
end
noncomputable def D3(X:Cx)(ifs:List Expr)(t:TT):Prop:=
 ∀(pins:List (Addr×Obj))(s:Shared)(σ:St)(H:Hp)(Q:Bool->Hp->Prop),Inv X pins σ H s->t σ H Q->
  wpAny (model X.prog X.w) X.A (forIn ifs true λ c r=>if r=true then do let ok<- isTrue c X.env (eval c X.env);pure (ForInStep.yield ok)else pure (ForInStep.yield r)) (TP X pins σ Q) X.xe s
noncomputable def O1:TT:= λ _ H Q=>Q true H
theorem GF:D3 X [] O1:= λ pins s σ H Q I h=>wpAny_tests_nil ⟨H,I,h⟩
theorem EL(h:PT X c t):D3 X [c] t:= λ pins s σ H Q I q=>wpAny_tests_one (h pins s σ H Q I q)
structure Nk (cal:Cx->Prop) (P:Program) (w:World) (K:PySem.W.Frag) (tg:Expr) (J:It) (fp:List Addr) (it:Addr) (tn:Nat->Heap->Prop):Prop where
 obj:∀ i h,tn i h->∀ b ∈ fp,∃ o,h.get? b=some o∧∀ v,o.data ≠ .cell v
 keep:∀ i h h',tn i h->(∀ b ∈ fp,∀ o,h.get? b=some o->h'.get? b=some o)->tn i h'
 item:∀ (X:Cx),X.prog=P->X.w=w->X.K=K->cal X->∀ (i:Nat) (pins:List (Addr × Obj)) (s:Shared) (σ:St) (H:Hp) (E:Value->Shared->Prop),Inv X pins σ H s->(∀ b ∈ fp,jA X pins H b)->tn i s.heap->J.go i H ->
  wpAny (model P w) X.A (pyNext (.ref it)) (fun r s1=>∃ u,r=some u ∧
   wpAny (model P w) X.A (letOwnedTupleGo tg (.ref it) u) (fun _ s2=>∃ x H',Inv X pins σ H' s2∧RelV x u∧J.yld i H x H' ∧ tn (i + 1) s2.heap∧∀ b ∈ fp,H' b=none) E s1) E s
 done:∀ (X:Cx),X.prog=P->X.w=w->X.K=K->cal X->∀ (i:Nat) (pins:List (Addr × Obj)) (s:Shared) (σ:St) (H:Hp) (E:Value->Shared->Prop),Inv X pins σ H s->(∀ b ∈ fp,jA X pins H b)->tn i s.heap->J.stop i H ->
  wpAny (model P w) X.A (pyNext (.ref it)) (fun r s1=>r=none∧Inv X pins σ H s1) E s
 self:∀ (A:Around) (i:Nat) (s:Shared) (Q:Value->Shared->Prop) (E:Value->Shared->Prop),tn i s.heap->Q (.ref it) s->wpAny (model P w) A (pyIter (.ref it)) Q E s
noncomputable def P9(cal:Cx->Prop)(X:Cx)(tg iter:Expr)(I:TI):Prop:=
 ∀(pins:List (Addr×Obj))(s:Shared)(σ:St)(H:Hp)(R:It->Hp->Prop),Inv X pins σ H s->I σ H R->
  wpAny (model X.prog X.w) X.A (eval iter X.env) (λ v s1=>wpAny (model X.prog X.w) X.A (pyIter v) (λ o s2=> ∃(it:Addr) (fp:List Addr) (C:Nat->Heap->Prop) (J:It) (H':Hp),o= .ref it/\Inv X pins σ H' s2/\Nk cal X.prog X.w X.K tg J fp it C/\C 0 s2.heap/\(∀b∈fp,jA X pins H' b)/\R J H') X.xe s1) X.xe s
theorem PI.g(h:PI X tg iter o):P9 (λ X=>X.calm=true) X tg iter o:= λ pins s σ H R I q=>
 c_ (h pins s σ H R I q) λ _ _ h=>c_ h λ _ _ ⟨it,fp,C,J,H',e,U,T,r⟩=>⟨it,fp,C,J,H',e,U,⟨T.obj,T.keep,T.item,T.done,T.self⟩,r⟩
noncomputable def x5(wi:TI)(own:Nat)(g:TG)(tt:TT)(te:TE):TE:= λ σ H Q=>wi σ H λ J H1=> ∀l,H1 l=none-> ∃W:Nat->Nat->List V->Hp->Prop,(∃m,W 0 m [] (upd H1 l (.lst [])))/\ ∀i m acc H,W i m acc H->
 H l=some (.lst acc)/\((J.stop i H/\Q (.ref l) H)\/(J.go i H/\ ∀x H',J.yld i H x H'->g x (σ++List.replicate own none) H' λ o H2=>o.take σ.length=σ/\tt o H2 λ b I=>
  if b=true then te o I λ v U=>U l=some (.lst acc)/\acc.length<sizeLine/\ ∃C,C<m/\W (i+1) C (acc++[v]) (upd U l (.lst (acc++[v])))
  else∃C,C<m/\W (i+1) C acc I))
section
variable {X:Cx} {elt tg iter:Expr} {ifs:List Expr} {scope:Scope} {pos pos':Pos} {N' own:List Str} {wi:TI} {g:TG} {tt:TT} {te:TE}
theorem yc {cal:Cx->Prop} (hc:∀ s H fp pins,cal (blk X N' own scope s H fp pins)) (hi:P9 cal X tg iter wi) (hk:scope.kind=.function) (hS:iC N' own X.env.scope scope=true) (hM:i0 X.N N' scope=true)
  (hg:∀ s H fp pins,PG (blk X N' own scope s H fp pins) tg g) (ht:∀ s H fp pins,D3 (blk X N' own scope s H fp pins) ifs tt) (he:∀ s H fp pins,PE (blk X N' own scope s H fp pins) elt te)
  (hs:∀ x,foldedSetIterable iter X.env x=pure x) {use:Option (Value->Sem Unit)} {Q0:Value->Shared->Prop} {pins:List (Addr × Obj)} {s:Shared} {σ:St} {H:Hp} {Q:VK}
  (I:Inv X pins σ H s) (h:x5 wi own.length g tt te σ H Q)
  (fin:∀ (l:Addr) (H':Hp) (s':Shared) (C:Addr) (m:Str->Option Value),Inv X pins σ H' s' -> Q (.ref l) H' -> s'.heap.Ns C m->H' C=none->C ≠ X.env.locals->X.s₀.heap.objs.size ≤ C->(∀ x c,X.env.cells.lookup x=some c->c ≠ C)->(∀ p ∈ X.pn ++ pins,p.1 ≠ C) ->
   compPost (model X.prog X.w) X.A X.xe use Q0 (.ref l) C (.ok .next) s') :
  wpAny (model X.prog X.w) X.A (comprehension (.ListComp elt [⟨tg,iter,ifs,0⟩] scope pos) scope X.env pos' (newList []) false (eval iter X.env) use) Q0 X.xe s:= by
 have S:=yX hS
 have Mk:=yF hM
 refine wpAny_comprehension_free rfl hs (oM fun n hn=>I.ok.has n (S.free n hn)) hk S.loc (c_ (hi pins s σ H _ I h) fun xv s1 h1=>c_ h1 fun itv s2 h2=>?_)
 obtain ⟨it,fp,tn,J,H2,e,I2,T,st2,f2,q2⟩:=h2
 subst e
 refine wpAny_newObj_type ?_
 have hl2:H2 s2.heap.objs.size=none:=I2.fresh
 have I3:Inv X pins σ (upd H2 s2.heap.objs.size (.lst [])) { s2 with heap:=s2.heap.push { cls:=.type "list",data:=.seq ([]:List Value).toArray } }:=I2.lnew (its:=[]) (t':=s2.toks) .nil (Nat.zero_le _)
 obtain ⟨W,⟨m0,w0⟩,turn⟩:=q2 s2.heap.objs.size hl2
 generalize hl:s2.heap.objs.size=l at *
 have ob2:∀ b ∈ fp,b < l:=fun b hb=>by
  obtain ⟨o,e,_⟩:=T.obj _ _ st2 b hb
  rw [<- hl];exact Heap.lt_size e
 have st3:tn 0 (s2.heap.push { cls:=.type "list",data:=.seq ([]:List Value).toArray }):=T.keep _ _ _ st2 fun b _ o e=>Heap.get?_push_of_some _ e
 have sz3:l < (s2.heap.push { cls:=.type "list",data:=.seq ([]:List Value).toArray }).objs.size:=by rw [Heap.size_push,hl];exact Nat.lt_succ_self _
 have f3:∀ b ∈ fp,jA X pins (upd H2 l (.lst [])) b:=fun b hb=>⟨by rw [bj (Nat.ne_of_lt (ob2 b hb))];exact (f2 b hb).1,(f2 b hb).2⟩
 generalize hs3:({ s2 with heap:=s2.heap.push { cls:=.type "list",data:=.seq ([]:List Value).toArray } }:Shared)=s3 at I3
 have hh3:s3.heap=s2.heap.push { cls:=.type "list",data:=.seq ([]:List Value).toArray }:=by rw [<- hs3]
 rw [<- hh3] at st3 sz3
 have ob3:∀ b ∈ fp,b < s3.heap.objs.size:=fun b hb=>Nat.lt_trans (ob2 b hb) sz3
 generalize upd H2 l (.lst [])=H3 at *
 show wpAny _ _ (newFunctionEnv scope X.env.globals (jI X.env.cells scope.names []) [] X.env.qual none .none (some X.env)) _ _ _
 have goal:wpAny (model X.prog X.w) X.A (newFunctionEnv scope X.env.globals (jI X.env.cells scope.names []) [] X.env.qual none .none (some X.env))
   (fun cenv s₄=>codeAny (model X.prog X.w) X.A (.compStart (.ListComp elt [⟨tg,iter,ifs,0⟩] scope pos) 0 (.ref it) (.ref l) { cenv with scope:=relabel scope X.env }) (compPost (model X.prog X.w) X.A X.xe use Q0 (.ref l) cenv.locals) s₄) X.xe s3:= by
  refine ue ?_
  have IY:=I3.blk f3 ob3 hk S Mk
  have keep:=@Inv.blkKeep s3 scope
  have st4:tn 0 (pushCells (s3.heap.push { cls:=.type "dict",data:=.dict #[] }) scope.names):=T.keep _ _ _ st3 fun b _ o e=>keep b o e
  have hcells:=qu I3 S
  have stat:∀ {H':Hp},(∀ b ∈ fp,H' b=none)->∀ b ∈ fp,jA (blk X N' own scope s3 H3 fp pins) [] H' b:=fun hn b hb=>by
   refine ⟨hn b hb,Nat.ne_of_lt (ob3 b hb),fun z=>?_,.inl hb,fun x c h=>?_,fun p hp=>?_⟩
   .rcases List.mem_cons.mp (I3.stkSub b z) with z | z
    .exact (f3 b hb).2.1 z
    .exact (f3 b hb).2.2.1 z
   .rcases hcells x c h with ⟨_,_,a3,_⟩ | ⟨a1,_,_⟩
    .intro z;subst z;exact absurd (ob3 _ hb) (Nat.not_lt.mpr (Nat.le_of_succ_le a3))
    .exact (f3 b hb).2.2.2.2.1 x c a1
   .have hp':p ∈ X.pn ++ pins:= by
     rcases List.mem_append.mp hp with z | z
     .exact z
     .exact nomatch z
    exact (f3 b hb).2.2.2.2.2 p hp'
  have loop:codeAny (model X.prog X.w) X.A (.compLoop (.ListComp elt [⟨tg,iter,ifs,0⟩] scope pos) 0 (.ref it) (.ref l) (blk X N' own scope s3 H3 fp pins).env)
    (compPost (model X.prog X.w) X.A X.xe use Q0 (.ref l) s3.heap.objs.size) { s3 with heap:=pushCells (s3.heap.push { cls:=.type "dict",data:=.dict #[] }) scope.names }:= by
   refine qP (fun n s'=>∃ i σ' H' acc,Inv (blk X N' own scope s3 H3 fp pins) [] σ' H' s' ∧ σ'.take σ.length=σ∧tn i s'.heap∧(∀ b ∈ fp,H' b=none)∧W i n acc H') ?_ m0
    ⟨0,_,H3,[],IY,by rw [List.take_left'] <;> rfl,st4,fun b hb=>(f3 b hb).1,w0⟩
   rintro n s5 ⟨i,σ5,H5,acc,I5,e5,st5,fr5,w5⟩
   obtain ⟨hacc,cs⟩:=turn i n acc H5 w5
   rcases cs with ⟨stop,q⟩ | ⟨go,step⟩
   .refine wpAny_mono (T.done (blk X N' own scope s3 H3 fp pins) rfl rfl rfl (hc _ _ _ _) i [] s5 σ5 H5 (fun _ _=>False) I5 (stat fr5) st5 stop) (fun r s6 hr=>?_) fun _ _ z=>z
    obtain ⟨rfl,I6⟩:=hr
    obtain ⟨m,hn,_⟩:=id I6.loc
    refine fin l H5 s6 _ m (I3.unblk f3 I6) q hn I6.free (Nat.ne_of_gt I3.lt) I3.sz (fun x c e z=>?_) fun p hp z=>?_
    .obtain ⟨v,qc⟩:=I3.cell x c e
     exact absurd qc.lt (by rw [z];exact Nat.lt_irrefl _)
    .exact absurd (Heap.lt_size (I3.pin p hp).1) (by rw [z];exact Nat.lt_irrefl _)
   .have lenσ:σ5.length=(σ ++ List.replicate own.length (none:Option V)).length:= by
     rw [I5.len,List.length_append,List.length_replicate,I.len]
     show (N' ++ own).length=_
     rw [List.length_append,Mk.len]
    have I5':Inv (blk X N' own scope s3 H3 fp pins) [] (σ ++ List.replicate own.length none) H5 s5:=I5.weak lenσ.symm fun j v e=>by
     have hj:j < σ.length:= by
      by_cases hj:j < σ.length
      .exact hj
      .rw [List.getElem?_append_right (by omega),List.getElem?_replicate] at e
       split at e <;> cases e
     rw [List.getElem?_append_left hj] at e
     rw [<- e5,List.getElem?_take_of_lt hj] at e
     exact e
    refine wpAny_mono (T.item (blk X N' own scope s3 H3 fp pins) rfl rfl rfl (hc _ _ _ _) i [] s5 _ H5 (fun _ _=>False) I5' (stat fr5) st5 go) (fun r s6 hr=>?_) fun _ _ z=>z
    obtain ⟨u,rfl,h6⟩:=hr
    refine c_ h6 fun _ s7 ⟨x,H7,I7,r7,y7,st7,fr7⟩=>?_
    have I7':=I7.pinned (stat fr7) (T.obj _ _ st7)
    refine c_ (hg s3 H3 fp pins _ s7 _ H7 x u _ I7' r7 (step x H7 y7)) fun _ s8 ⟨σ8,H8,I8,e8,q8⟩=>?_
    refine c_ (ht s3 H3 fp pins _ s8 σ8 H8 _ I8 q8) fun b s9 ⟨H9,I9,q9⟩=>?_
    have again:∀ {Ha:Hp} {sa:Shared} {acc':List V} {m':Nat},Inv (blk X N' own scope s3 H3 fp pins) ([] ++ oC fp s7.heap) σ8 Ha sa->m' < n->W (i + 1) m' acc' Ha ->
      ∃ m,m < n∧∃ i σ' H' acc,Inv (blk X N' own scope s3 H3 fp pins) [] σ' H' sa∧σ'.take σ.length=σ∧tn i sa.heap∧(∀ b ∈ fp,H' b=none)∧W i m acc H':=fun {Ha sa acc' m'} Ia hm wa=>by
     refine ⟨m',hm,i + 1,σ8,Ha,acc',Ia.unpinned,e8,T.keep _ _ _ st7 fun b hb o e=>(Ia.pin (b,o) (List.mem_append_right _ (List.mem_append_right _ (g6 hb e)))).1,fun b hb=>?_,wa⟩
     obtain ⟨o,e,d⟩:=T.obj _ _ st7 b hb
     exact (Ia.pin (b,o) (List.mem_append_right _ (List.mem_append_right _ (g6 hb e)))).2.1
    cases b with
    | false=>
     rw [if_neg Bool.false_ne_true] at q9 ⊢
     obtain ⟨m',hm,wa⟩:=q9
     exact again I9 hm wa
    | true=>
     rw [if_pos rfl] at q9 ⊢
     refine c_ (he s3 H3 fp pins _ s9 σ8 H9 _ I9 q9) fun y s10 ⟨v,H10,I10,rv,a10,z10,m',hm,wa⟩=>?_
     exact c_ (qa _ s10 σ8 H10 (.ref l) [v] (.ref l) [y] (fun _ Hb=>Hb=upd H10 l (.lst (acc ++ [v]))) I10 rfl (.cons rv .nil) ⟨l,acc,v,rfl,rfl,a10,z10,rfl⟩) fun _ s11 ⟨_,Hb,Ib,_,eb⟩=>by
      subst eb
      exact again Ib hm wa
  exact codeAny_compStart_list loop (T.self _ 0 _ _ _ st4 loop)
 omega
theorem F7(J:PI X tg iter wi)(U: ∀s H fp pins,PG (blk X N' own scope s H fp pins) tg g)(ht: ∀s H fp pins,D3 (blk X N' own scope s H fp pins) ifs tt)(he: ∀s H fp pins,PE (blk X N' own scope s H fp pins) elt te)
  (hS:iC N' own X.env.scope scope=true:=by rfl)(hM:i0 X.N N' scope=true:=by rfl)(hk:scope.kind= .function:=by rfl)(hc:X.calm=true:=by rfl)(hs: ∀x,foldedSetIterable iter X.env x=pure x:=by intro _;rfl):
  PE X (.ListComp elt [⟨tg,iter,ifs,0⟩] scope pos) (x5 wi own.length g tt te):=by intro pins s σ H Q I h;refine yc (use:=none) (cal:= λ X=>X.calm=true) (λ _ _ _ _=>hc) J.g hk hS hM U ht he hs I h λ l H' s' C m I' q hn h1 h2 h3 h4 h5=>?_;refine⟨m,hn,λ h' sb=>⟨.ref l,H',?_,rfl,q⟩⟩;exact I'.turned (t':=s'.toks) (λ b o hb e=>(sb.2 b hb).trans e) h1 h2 (.inr h3) h4 h5
theorem yv{J U:Pos}(hN:X.N.Nodup)(aa:X.N[i]?=some x)(hx:X.env.scope.names.lookup x=some .local)
  (hi:PI X tg iter wi)(hg: ∀s H fp pins,PG (blk X N' own scope s H fp pins) tg g)(ht: ∀s H fp pins,D3 (blk X N' own scope s H fp pins) ifs tt)(he: ∀s H fp pins,PE (blk X N' own scope s H fp pins) elt te)
  (ab:swapsWith (.ListComp elt [⟨tg,iter,ifs,0⟩] scope pos) (some (.Name x J)) U.line X.env=pure true:=by rfl)
  (hS:iC N' own X.env.scope scope=true:=by rfl)(hM:i0 X.N N' scope=true:=by rfl)(hk:scope.kind= .function:=by rfl)(hc:X.calm=true:=by rfl)(hs: ∀x,foldedSetIterable iter X.env x=pure x:=by intro _;rfl):
  PS X (.Assign [.Name x J] (.ListComp elt [⟨tg,iter,ifs,0⟩] scope pos) U) (lH (x5 wi own.length g tt te) (ik i)):=by
 intro pins s σ H D I h;rw[exec_Assign_Name_used _ _ _ _ ab];refine wpAny_bind (wpAny_standAt (wpAny_bind ?_));refine wpAny_bind (wpAny_mono (Q:= λ _ s'=>SP X pins D .next s') ?_ (λ _ s' hq=>wpAny_pure (wpAny_pure hq)) λ _ _ e=>e);refine yc (use:=some (assign (.Name x J) X.env)) (cal:= λ X=>X.calm=true) (λ _ _ _ _=>hc) hi.g hk hS hM hg ht he hs I h λ l H' s' C m I' q hn h1 h2 h3 h4 h5=>?_;refine wpAny_assign_Name (qw I' hN aa (.inl hx) (v:= .ref l) (u:= .ref l) rfl (λ ae af ag=>?_) (.inr hx));obtain⟨a,sb,ha⟩:=ag;have ah:C≠a:=by grind
 refine⟨m,hn.sameBut sb ah,λ h' ai=>⟨σ.set i (some (.ref l)),H',?_,q⟩⟩;exact af.turned (t':=ae.toks) (λ b o hb e=>(ai.2 b hb).trans e) h1 h2 (.inr h3) h4 h5
end
end L2
namespace Jt
open PySem L2
inductive D where
 | non | bl (b:Bool) | int (i:Int) | str (x:Str) | tup (xs:List D) | lst (xs:List D) | dct | dic (kvs:List (Int × Int)) | dip (kvs:List ((Int × Int) × Int))
noncomputable def mX(a:Addr):HO:= .ext λ h=>a≠sysModules/\ ∃o n,h.get? a=some o/\o.cls= .type "dict"/\o.data= .dict #[] n
noncomputable abbrev FY(kvs:List (Int×Int)):HO:= .dK (kvs.map λ p=>(.inl p.1,.int p.2))
noncomputable abbrev Eu(kvs:List ((Int×Int)×Int)):HO:= .dT (kvs.map λ p=>([.inl p.1.1,.inl p.1.2],.int p.2))
mutual
noncomputable def R (H:Hp):D->V->Prop
 | .non,v=>v=.non
 | .bl b,v=>v=.bl b
 | .int i,v=>v=.int i
 | .str x,v=>v=.str x
 | .tup ds,v=>∃ a vs,v=.ref a∧H a=some (.tup vs)∧Rs H ds vs
 | .lst ds,v=>∃ a vs,v=.ref a∧Rd H a (.lst vs)∧Rs H ds vs
 | .dct,v=>∃ a,v=.ref a∧H a=some (mX a)
 | .dic kvs,v=>∃ a,v=.ref a∧H a=some (FY kvs)
 | .dip kvs,v=>∃ a,v=.ref a∧H a=some (Eu kvs)
noncomputable def Rs (H:Hp):List D->List V->Prop
 | [],vs=>vs=[]
 | d :: ds,vs=>∃ v r,vs=v :: r∧R H d v∧Rs H ds r
end
theorem Rd.mono(m: ∀b o,H b=some o->H' b=some o)(h:Rd H a u):Rd H' a u:=by
 rcases h with h|⟨o,h⟩
 .exact .inl (m _ _ h)
 .exact .inr ⟨o,m _ _ h⟩
mutual
theorem R.mono {H H':Hp} (m:∀ b o,H b=some o->H' b=some o):∀ (d:D) (v:V),R H d v->R H' d v
 | .non,v,h=>by unfold R at *;exact h
 | .bl b,v,h=>by unfold R at *;exact h
 | .int i,v,h=>by unfold R at *;exact h
 | .str x,v,h=>by unfold R at *;exact h
 | .tup ds,v,h=>by
  unfold R at *
  obtain ⟨a,vs,e,h1,h2⟩:=h
  exact ⟨a,vs,e,m _ _ h1,Rs.mono m ds vs h2⟩
 | .lst ds,v,h=>by
  unfold R at *
  obtain ⟨a,vs,e,h1,h2⟩:=h
  exact ⟨a,vs,e,Rd.mono m h1,Rs.mono m ds vs h2⟩
 | .dct,v,h=>by
  unfold R at *
  obtain ⟨a,e,h1⟩:=h
  exact ⟨a,e,m _ _ h1⟩
 | .dic kvs,v,h=>by
  unfold R at *
  obtain ⟨a,e,h1⟩:=h
  exact ⟨a,e,m _ _ h1⟩
 | .dip kvs,v,h=>by
  unfold R at *
  obtain ⟨a,e,h1⟩:=h
  exact ⟨a,e,m _ _ h1⟩
theorem Rs.mono {H H':Hp} (m:∀ b o,H b=some o->H' b=some o):∀ (ds:List D) (vs:List V),Rs H ds vs->Rs H' ds vs
 | [],vs,h=>by unfold Rs at *;exact h
 | d :: ds,vs,h=>by
  unfold Rs at *
  obtain ⟨v,r,e,h1,h2⟩:=h
  exact ⟨v,r,e,R.mono m d v h1,Rs.mono m ds r h2⟩
end
theorem Rs.nil:Rs H [] []:=by rfl
theorem Rs.cons{H:Hp}{d:D}{v:V}{ds:List D}{vs:List V}(h:R H d v)(t:Rs H ds vs):Rs H (d::ds) (v::vs):=by unfold Rs;grind
theorem Rs.inv(h:Rs H (d::ds) vs): ∃v r,vs=v::r/\R H d v/\Rs H ds r:=h
theorem Rs.inv0(h:Rs H [] vs):vs=[]:=h
theorem Rs.head (h:Rs H (d :: ds) (v :: vs)):R H d v:= by
 obtain ⟨v',r,e,h1,h2⟩:=h.inv;grind
theorem Rs.tail (h:Rs H (d :: ds) (v :: vs)):Rs H ds vs:= by
 obtain ⟨v',r,e,h1,h2⟩:=h.inv;grind
theorem Rs.length: ∀{ds:List D}{vs:List V},Rs H ds vs->vs.length=ds.length
 |[],vs,h=>by rw[h.inv0];rfl
 |d::ds,vs,h=>by obtain⟨v,r,e,_,o⟩:=h.inv;subst e;simp[Rs.length o]
theorem Rs.append: ∀{ds es:List D}{vs us:List V},Rs H ds vs->Rs H es us->Rs H (ds++es) (vs++us)
 |[],es,vs,us,h,t=>by rw[h.inv0];exact t
 |d::ds,es,vs,us,h,t=>by obtain⟨v,r,e,o,C⟩:=h.inv;subst e;exact .cons o (Rs.append C t)
theorem Rs.left: ∀{ds es:List D}{vs us:List V},vs.length=ds.length->Rs H (ds++es) (vs++us)->Rs H ds vs
 |[],es,[],us,_,h=> .nil
 |d::ds,es,v::vs,us,l,h=> .cons h.head (Rs.left (by grind) h.tail)
 |[],_,_::_,_,l,_=>by cases l
 |_::_,_,[],_,l,_=>by cases l
theorem Rs.right: ∀{ds es:List D}{vs us:List V},vs.length=ds.length->Rs H (ds++es) (vs++us)->Rs H es us
 |[],es,[],us,_,h=>h
 |d::ds,es,v::vs,us,l,h=>Rs.right (ds:=ds) (vs:=vs) (by grind) h.tail
 |[],_,_::_,_,l,_=>by cases l
 |_::_,_,[],_,l,_=>by cases l
theorem Rs.get: ∀{ds:List D}{vs:List V}{i:Nat}{d:D},Rs H ds vs->ds[i]?=some d-> ∃v,vs[i]?=some v/\R H d v
 |[],_,_,_,_,e=>by simp at e
 |d::ds,vs,0,d',h,e=>by obtain⟨v,r,o,C,I⟩:=h.inv;subst o;simp at e;subst e;exact⟨v,rfl,C⟩
 |d::ds,vs,i+1,d',h,e=>by obtain⟨v,r,o,C,I⟩:=h.inv;obtain⟨J,U,h3⟩:=Rs.get (i:=i) I (by simpa using e);grind
theorem R.tup{H:Hp}{ds:List D}{v:V}(h:R H (.tup ds) v): ∃a vs,v= .ref a/\H a=some (.tup vs)/\Rs H ds vs:=h
theorem R.lst{H:Hp}{ds:List D}{v:V}(h:R H (.lst ds) v): ∃a vs,v= .ref a/\Rd H a (.lst vs)/\Rs H ds vs:=h
theorem R.dct(h:R H .dct v): ∃a,v= .ref a/\H a=some (mX a):=h
theorem R.dic(h:R H (.dic kvs) v): ∃a,v= .ref a/\H a=some (FY kvs):=h
theorem R.dip(h:R H (.dip kvs) v): ∃a,v= .ref a/\H a=some (Eu kvs):=h
theorem R.mkD(h:H a=some (mX a)):R H .dct (.ref a):=by unfold R;grind
theorem R.int(h:R H (.int i) v):v= .int i:=h
theorem R.bl(h:R H (.bl i) v):v= .bl i:=h
theorem R.str(h:R H (.str i) v):v= .str i:=h
theorem R.non(h:R H .non v):v= .non:=h
theorem R.mkI:R H (.int i) (.int i):=by rfl
theorem R.mkB:R H (.bl i) (.bl i):=by rfl
theorem R.mkS:R H (.str i) (.str i):=by rfl
theorem R.mkN:R H .non .non:=by rfl
theorem R.mkT{ds:List D}{vs:List V}(h:H a=some (.tup vs))(t:Rs H ds vs):R H (.tup ds) (.ref a):=by unfold R;grind
theorem R.mkL{vs:List V}(h:Rd H a (.lst vs))(t:Rs H ds vs):R H (.lst ds) (.ref a):=by unfold R;grind
inductive Slot where
 | un | pu (d:D) | ow (b:Bool) (xs:List D)
noncomputable abbrev DS:=List Slot
structure Ct where
 Z:Hp
 B:List Addr
 H0:Hp
noncomputable def vi(o:DS)(σ:St)(a:Addr):Prop:= ∃(i:Nat) (b:Bool) (xs:List D),o[i]?=some (.ow b xs)/\σ[i]?=some (some (.ref a))
open Classical in
noncomputable def Ep(p:Addr->Prop)(H:Hp):Hp:= λ a=>if p a then none else H a
noncomputable def Hd(c:Ct)(C:DS)(σ:St)(a:Addr):Prop:=(∃o,c.Z a=some o)\/vi C σ a
noncomputable abbrev gC(c:Ct)(o:DS)(σ:St)(H:Hp):Hp:=Ep (Hd c o σ) H
theorem fO:Ep p H a=some o↔ ¬p a/\H a=some o:=by unfold Ep;simp
theorem bP{p q:Addr->Prop}{H H':Hp}(J: ∀a o,H a=some o->q a->p a)(U: ∀a o,¬p a->H a=some o->H' a=some o): ∀b o,Ep p H b=some o->Ep q H' b=some o:= λ b o h=>by obtain⟨C,I⟩:=fO.mp h;exact fO.mpr ⟨λ z=>C (J b o I z),U b o C I⟩
noncomputable def Kj(Z H:Hp):Prop:= ∀a o,Z a=some o->H a=some o/\ ∀xs,o≠ .tup xs
structure Sl (c:Ct) (δ:DS) (S:List D) (σ:St) (T:List V) (H:Hp):Prop where
 len:δ.length=σ.length
 pu:∀ (i:Nat) d,δ[i]? = some (.pu d)->∃ v,σ[i]? = some (some v)∧R (gC c δ σ H) d v
 ow:∀ (i:Nat) b xs,δ[i]? = some (.ow b xs)->∃ a vs,σ[i]? = some (some (.ref a))∧H a=some (.lst vs)∧Rs (gC c δ σ H) xs vs∧(b=true->a ∈ c.B)∧(b=false->a ∉ c.B∧c.H0 a=none)∧c.Z a=none
 ne:∀ (i j:Nat) b b' xs ys a,δ[i]? = some (.ow b xs)->δ[j]? = some (.ow b' ys)->σ[i]? = some (some (.ref a))->σ[j]? = some (some (.ref a))->i=j
 st:Rs (gC c δ σ H) S T
 keep:∀ b o,b ∉ c.B->c.H0 b=some o->H b=some o
 bb:∀ b ∈ c.B,∃ o,H b=some o
 zk:Kj c.Z H
section
variable {c:Ct} {δ:DS} {S:List D} {σ:St} {T:List V} {H:Hp}
theorem Sl.zz(s:Sl c δ S σ T H): ∀a o,c.Z a=some o->H a=some o:= λ a o h=>(s.zk a o h).1
theorem Sl.hdSome(s:Sl c δ S σ T H){a:Addr}(h:Hd c δ σ a): ∃o,H a=some o:=by
 rcases h with⟨o,h⟩|⟨i,b,xs,C,I⟩
 .exact⟨o,s.zz _ _ h⟩
 .obtain⟨J,vs,e,U,_⟩:=s.ow i b xs C;simp_all
theorem Sl.stk(s:Sl c δ S σ T H){S':List D}{T':List V}(h:Rs (gC c δ σ H) S' T'):Sl c δ S' σ T' H:=⟨s.len,s.pu,s.ow,s.ne,h,s.keep,s.bb,s.zk⟩
theorem Sl.pop(s:Sl c δ (d::S) σ (v::T) H):Sl c δ S σ T H:=s.stk s.st.tail
theorem Sl.grow(s:Sl c δ S σ T H){H':Hp}(g:jO H H'):Sl c δ S σ T H':=by
 have m: ∀b o,gC c δ σ H b=some o->gC c δ σ H' b=some o:=bP (λ _ _ _ z=>z) λ a o _ h=>g a o h;refine⟨s.len,λ i d h=>?_,λ i b xs h=>?_,s.ne,s.st.mono m,λ b o C I=>g _ _ (s.keep b o C I),λ b J=>?_,λ a o hz=>⟨g _ _ (s.zz a o hz),(s.zk a o hz).2⟩⟩;. obtain⟨v,e,r⟩:=s.pu i d h;exact⟨v,e,r.mono m⟩
 .obtain⟨a,vs,e,C,I,U⟩:=s.ow i b xs h;exact⟨a,vs,e,g _ _ C,I.mono m,U⟩
 .obtain⟨o,h⟩:=s.bb b J;exact⟨o,g _ _ h⟩
theorem fT(h:H p=none)(o:HO):jO H (upd H p o):= λ b u q=>by rw[bj (cB q h)];exact q
theorem Sl.hdNew(s:Sl c δ S σ T H){p:Addr}(h:H p=none): ¬Hd c δ σ p:= λ z=>by obtain⟨o,e⟩:=s.hdSome z;grind
theorem Sl.fresh(s:Sl c δ S σ T H){p:Addr}(h:H p=none):c.Z p=none/\p∉c.B/\c.H0 p=none:=by
 have C:p∉c.B:= λ z=>by obtain⟨o,e⟩:=s.bb p z;simp_all
 refine⟨?_,C,?_⟩;. cases e:c.Z p with
  |none=>rfl
  |some o=>have:=s.zz p o e;rw[h]at this;cases this
 .cases e:c.H0 p with
  |none=>rfl
  |some o=>have:=s.keep p o C e;rw[h]at this;cases this
theorem Sl.newTup(s:Sl c δ (ds++S) σ (vs++T) H)(l:vs.length=ds.length){p:Addr}(h:H p=none):Sl c δ (.tup ds::S) σ (.ref p::T) (upd H p (.tup vs)):=by have s':=s.grow (fT h (.tup vs));exact s'.stk (.cons (.mkT (fO.mpr ⟨s.hdNew h,bz⟩) (s'.st.left l)) (s'.st.right l))
theorem Sl.hide(s:Sl c δ S σ T H){p:Addr}{o:HO}(h:H p=none)(U: ∀xs,o≠ .tup xs:=by exact fun _ h=>nomatch h):Sl { c with Z:=upd c.Z p o } δ S σ T (upd H p o):=by
 have g:=fT h o;have m: ∀b u,gC c δ σ H b=some u->gC { c with Z:=upd c.Z p o } δ σ (upd H p o) b=some u:=bP (λ a u e z=>by
  rcases z with⟨w,z⟩|z
  .have:a≠p:= λ q=>by rw[q,h]at e;cases e
   exact .inl ⟨w,(show c.Z a=upd c.Z p o a from(bj this).symm).trans z⟩
  .exact .inr z) λ a u _ e=>g a u e;refine⟨s.len,λ i d e=>?_,λ i b xs e=>?_,s.ne,s.st.mono m,λ b u I J=>g _ _ (s.keep b u I J),λ b hb=>?_,λ a u hz=>?_⟩;. obtain⟨v,e,r⟩:=s.pu i d e;exact⟨v,e,r.mono m⟩
 .obtain⟨a,vs,e,I,J,h3,h4,h5⟩:=s.ow i b xs e;refine⟨a,vs,e,g _ _ I,J.mono m,h3,h4,?_⟩;show upd c.Z p o a=none;rw[bj λ q=>by rw[q,h]at I;cases I];omega
 .obtain⟨u,e⟩:=s.bb b hb;exact⟨u,g _ _ e⟩
 .have C:upd c.Z p o a=some u:=hz;by_cases q:a=p;. subst q;rw[bz]at C|-;exact⟨C,by cases C;exact U⟩
  .rw[bj q]at C|-;exact s.zk a u C
theorem Sl.noOw(s:Sl { c with Z:=upd c.Z p o } δ S σ T H): ¬vi δ σ p:= λ⟨i,b,xs,I,J⟩=>by obtain⟨a,vs,e,_,_,_,_,U⟩:=s.ow i b xs I;rw[J]at e;cases e;have C:upd c.Z p o p=none:=U;rw[bz]at C;grind
theorem Sl.hideSet(I:HO)(s:Sl { c with Z:=upd c.Z p o } δ S σ T H)(hB:p∉c.B)(h0:c.H0 p=none)(hn: ∀xs,I≠ .tup xs:=by exact fun _ h=>nomatch h):Sl { c with Z:=upd c.Z p I } δ S σ T (upd H p I):=by
 have npow:=s.noOw;have m: ∀b u,gC { c with Z:=upd c.Z p o } δ σ H b=some u->gC { c with Z:=upd c.Z p I } δ σ (upd H p I) b=some u:=bP (λ a u e z=>by
  rcases z with⟨w,z⟩|z
  .have z':upd c.Z p I a=some w:=z;by_cases q:a=p;. subst q;exact .inl ⟨o,bz⟩
   .rw[bj q]at z';exact .inl ⟨w,by show upd c.Z p o a=some w;rw[bj q];exact z'⟩
  .exact .inr z) λ a u ha e=>by have:a≠p:= λ z=>ha (.inl ⟨o,by rw[z];exact bz⟩);rw[bj this];exact e
 refine⟨s.len,λ i d e=>?_,λ i b xs e=>?_,s.ne,s.st.mono m,λ b u h1 h2=>?_,λ b hb=>?_,λ a u hz=>?_⟩;. obtain⟨v,e,r⟩:=s.pu i d e;exact⟨v,e,r.mono m⟩
 .have hx:=e;obtain⟨a,vs,e,h1,h2,h3,h4,h5⟩:=s.ow i b xs e;have J:a≠p:= λ z=>npow ⟨i,b,xs,hx,by rw[e,z]⟩;refine⟨a,vs,e,by rw[bj J];exact h1,h2.mono m,h3,h4,?_⟩;have aa:upd c.Z p o a=none:=h5;show upd c.Z p I a=none;rw[bj J]at aa|-;omega
 .have:b≠p:= λ z=>by have U:c.H0 b=some u:=h2;rw[z,h0]at U;cases U
  rw[bj this];exact s.keep b u h1 h2
 .have:b≠p:= λ z=>hB (z▸hb);rw[bj this];exact s.bb b hb
 .have C:upd c.Z p I a=some u:=hz;by_cases q:a=p;. subst q;rw[bz]at C|-;exact⟨C,by cases C;exact hn⟩
  .rw[bj q]at C|-;exact s.zk a u (by show upd c.Z p o a=some u;rw[bj q];exact C)
theorem Sl.unhideL{vs:List V}(s:Sl { c with Z:=upd c.Z p (.lst vs) } δ (xs++S) σ (vs++T) H)(l:vs.length=xs.length)(o:c.Z p=none):Sl c δ (.lst xs::S) σ (.ref p::T) H:=by
 have C:H p=some (.lst vs):=s.zz p _ bz;have npow:=s.noOw;have U: ∀a u,c.Z a=some u->upd c.Z p (.lst vs) a=some u:= λ a u h=>by rw[bj λ q=>by rw[q,o]at h;cases h];exact h
 have m: ∀b u,gC { c with Z:=upd c.Z p (.lst vs) } δ σ H b=some u->gC c δ σ H b=some u:=bP (λ a u e z=>by
  rcases z with⟨w,z⟩|z
  .exact .inl ⟨w,U a w z⟩
  .exact .inr z) λ a u ha e=>e;refine⟨s.len,λ i d e=>?_,λ i b xs e=>?_,s.ne,.cons (.mkL (.inl (fO.mpr ⟨λ z=>?_,C⟩)) ((s.st.left l).mono m)) ((s.st.right l).mono m),s.keep,s.bb,λ a u hz=>s.zk a u (U a u hz)⟩;. obtain⟨v,e,r⟩:=s.pu i d e;exact⟨v,e,r.mono m⟩
 .obtain⟨a,I,e,h1,h2,h3,h4,h5⟩:=s.ow i b xs e;refine⟨a,I,e,h1,h2.mono m,h3,h4,?_⟩;have J:upd c.Z p (.lst vs) a=none:=h5;by_cases q:a=p;. rw[q];exact o
  .rwa [bj q]at J
 .rcases z with⟨u,z⟩|z
  .rw[o]at z;cases z
  simp_all
theorem Sl.setPu(s:Sl c δ (d::S) σ (v::T) H)(I:i<δ.length):Sl c (δ.set i (.pu d)) S (σ.set i (some v)) T H:=by
 have aa: ∀a,vi (δ.set i (.pu d)) (σ.set i (some v)) a->vi δ σ a:= λ a ⟨j,b,xs,o,C⟩=>by
  by_cases e:i=j;. subst e;rw[List.getElem?_set_self I]at o;cases o
  .rw[List.getElem?_set_ne e]at o C;exact⟨j,b,xs,o,C⟩
 have m: ∀b u,gC c δ σ H b=some u->gC c (δ.set i (.pu d)) (σ.set i (some v)) H b=some u:=bP (λ a u e z=>z.elim .inl λ z=> .inr (aa a z)) λ a u _ e=>e;refine⟨by simpa using s.len,λ j d' h=>?_,λ j b xs h=>?_,λ j k b b' xs ys a o C J h4=>?_,s.st.tail.mono m,s.keep,s.bb,s.zk⟩
 .by_cases e:i=j;. subst e;rw[List.getElem?_set_self I]at h;cases h;exact⟨v,by rw[List.getElem?_set_self (by rw[<- s.len];exact I)],s.st.head.mono m⟩
  .rw[List.getElem?_set_ne e]at h|-;obtain⟨v',U,r⟩:=s.pu j d' h;exact⟨v',U,r.mono m⟩
 .by_cases e:i=j;. subst e;rw[List.getElem?_set_self I]at h;cases h
  .rw[List.getElem?_set_ne e]at h|-;obtain⟨a,vs,e,o,C,J⟩:=s.ow j b xs h;exact⟨a,vs,e,o,C.mono m,J⟩
 .by_cases e:i=j;. subst e;rw[List.getElem?_set_self I]at o;cases o
  .by_cases U:i=k;. subst U;rw[List.getElem?_set_self I]at C;cases C
   .rw[List.getElem?_set_ne e]at o J;rw[List.getElem?_set_ne U]at C h4;exact s.ne j k b b' xs ys a o C J h4
theorem Sl.setOw{vs:List V}{i:Nat}(s:Sl { c with Z:=upd c.Z p (.lst vs) } δ (xs++S) σ (vs++T) H)(l:vs.length=xs.length)(hp:c.Z p=none)(hB:p∉c.B)(h0:c.H0 p=none)(hi:i<δ.length):
  Sl c (δ.set i (.ow false xs)) S (σ.set i (some (.ref p))) T H:=by
 have aa:H p=some (.lst vs):=s.zz p _ bz;have npow: ∀(j:Nat) b ys,δ[j]?=some (.ow b ys)->σ[j]?≠some (some (.ref p)):= λ j b ys I o=>s.noOw ⟨j,b,ys,I,o⟩;have zc: ∀a u,c.Z a=some u->upd c.Z p (.lst vs) a=some u:= λ a u h=>by rw[bj λ q=>by rw[q,hp]at h;cases h];exact h
 have C:i<σ.length:=by rw[<- s.len];exact hi
 have m: ∀b u,gC { c with Z:=upd c.Z p (.lst vs) } δ σ H b=some u->gC c (δ.set i (.ow false xs)) (σ.set i (some (.ref p))) H b=some u:=bP (λ a u e z=>by
  rcases z with⟨w,z⟩|⟨j,b,ys,I,o⟩
  .exact .inl ⟨w,zc a w z⟩
  .by_cases e:i=j;. subst e;rw[List.getElem?_set_self C]at o;cases o;exact .inl ⟨_,bz⟩
   .rw[List.getElem?_set_ne e]at I o;exact .inr ⟨j,b,ys,I,o⟩) λ a u _ e=>e;refine⟨by simpa using s.len,λ j d' h=>?_,λ j b ys h=>?_,λ j k b b' ys zs a I o U J=>?_,(s.st.right l).mono m,s.keep,s.bb,λ a u hz=>s.zk a u (zc a u hz)⟩
 .by_cases e:i=j;. subst e;rw[List.getElem?_set_self hi]at h;cases h
  .rw[List.getElem?_set_ne e]at h|-;obtain⟨v',e',r⟩:=s.pu j d' h;exact⟨v',e',r.mono m⟩
 .by_cases e:i=j
  .subst e;rw[List.getElem?_set_self hi]at h;cases h;exact⟨p,vs,by rw[List.getElem?_set_self C],aa,(s.st.left l).mono m,(λ z=>absurd z Bool.false_ne_true),(λ _=>⟨hB,h0⟩),hp⟩
  .rw[List.getElem?_set_ne e]at h|-;have hx:=h;obtain⟨a,ws,e,I,o,U,J,h5⟩:=s.ow j b ys h;refine⟨a,ws,e,I,o.mono m,U,J,?_⟩;have ab:upd c.Z p (.lst vs) a=none:=h5;rwa [bj λ q=>npow j b ys hx (by rw[e,q])]at ab
 .by_cases e:i=j;. grind
  .rw[List.getElem?_set_ne e]at I U;by_cases e':i=k;. subst e';rw[List.getElem?_set_self C]at J;cases J;exact absurd U (npow j b ys I)
   .rw[List.getElem?_set_ne e']at o J;exact s.ne j k b b' ys zs a I o U J
theorem Sl.giveOw{xs:List D}{i:Nat}(s:Sl c δ S σ T H)(U:δ[i]?=some (.ow false xs))(ha:σ[i]?=some (some (.ref a))):
  ∃vs,vs.length=xs.length/\Sl { c with Z:=upd c.Z a (.lst vs) } (δ.set i .un) (xs++S) σ (vs++T) H/\c.Z a=none/\a∉c.B/\c.H0 a=none:=by
 have o:i<δ.length:=(List.getElem?_eq_some_iff.mp U).1;obtain⟨a',vs,e,hH,hv,_,hB,hZ⟩:=s.ow i false xs U;rw[ha]at e;cases e;have aa: ∀b,vi (δ.set i .un) σ b->vi δ σ b/\b≠a:= λ b ⟨j,bb,ys,C,J⟩=>by
  by_cases e:i=j;. subst e;rw[List.getElem?_set_self o]at C;cases C
  .rw[List.getElem?_set_ne e]at C;exact⟨⟨j,bb,ys,C,J⟩,λ q=>e (s.ne i j _ _ _ _ a U C ha (by rw[J,q]))⟩
 have m: ∀b u,gC c δ σ H b=some u->gC { c with Z:=upd c.Z a (.lst vs) } (δ.set i .un) σ H b=some u:=bP (λ b u e z=>by
  rcases z with⟨w,z⟩|z
  .by_cases q:b=a;. subst q;exact .inr ⟨i,false,xs,U,ha⟩
   .exact .inl ⟨w,(show c.Z b=upd c.Z a (.lst vs) b from(bj q).symm).trans z⟩
  .exact .inr (aa b z).1) λ b u _ e=>e;refine⟨vs,hv.length,⟨by simpa using s.len,λ j d h=>?_,λ j b ys h=>?_,λ j k b b' ys zs x C J h3 h4=>?_,(hv.append s.st).mono m,s.keep,s.bb,λ x u hz=>?_⟩,hZ,(hB rfl).1,(hB rfl).2⟩
 .have e:i≠j:= λ e=>by subst e;rw[List.getElem?_set_self o]at h;cases h
  rw[List.getElem?_set_ne e]at h;obtain⟨v',e',r⟩:=s.pu j d h;exact⟨v',e',r.mono m⟩
 .have e:i≠j:= λ e=>by subst e;rw[List.getElem?_set_self o]at h;cases h
  rw[List.getElem?_set_ne e]at h;obtain⟨b1,ws,e',C,J,h3,h4,h5⟩:=s.ow j b ys h;refine⟨b1,ws,e',C,J.mono m,h3,h4,?_⟩;show upd c.Z a (.lst vs) b1=none;rw[bj λ q=>e (s.ne i j _ _ _ _ a U h ha (by rw[e',q]))];omega
 .have g: ∀(j:Nat) b ys,(δ.set i Slot.un)[j]?=some (.ow b ys)->δ[j]?=some (.ow b ys):= λ j b ys h=>by
   have e:i≠j:= λ e=>by subst e;rw[List.getElem?_set_self o]at h;cases h
   rwa [List.getElem?_set_ne e]at h
  exact s.ne j k b b' ys zs x (g _ _ _ C) (g _ _ _ J) h3 h4
 .have I:upd c.Z a (.lst vs) x=some u:=hz;by_cases q:x=a;. subst q;rw[bz]at I;cases I;exact⟨hH,λ _ h=>nomatch h⟩
  .rw[bj q]at I;exact s.zk x u I
theorem Sl.mut{J:Bool}{xs C:List D}{U:List V}{i:Nat}(s:Sl c δ S σ T H)(hi:δ[i]?=some (.ow J xs))(ha:σ[i]?=some (some (.ref a)))(hv:Rs (gC c δ σ H) C U):
  Sl c (δ.set i (.ow J C)) S σ T (upd H a (.lst U)):=by
 have aa:i<δ.length:=(List.getElem?_eq_some_iff.mp hi).1;obtain⟨a',vs,e,hH,_,hB,ab,hZ⟩:=s.ow i J xs hi;rw[ha]at e;cases e;have ae: ∀b,vi (δ.set i (.ow J C)) σ b->vi δ σ b:= λ b ⟨j,bb,ys,I,o⟩=>by
  by_cases e:i=j;. subst e;exact⟨i,J,xs,hi,o⟩
  .rw[List.getElem?_set_ne e]at I;exact⟨j,bb,ys,I,o⟩
 have m: ∀b u,gC c δ σ H b=some u->gC c (δ.set i (.ow J C)) σ (upd H a (.lst U)) b=some u:=bP (λ b u e z=>z.elim .inl λ z=> .inr (ae b z)) λ b u hb e=>by
  have:b≠a:= λ z=>hb (.inr ⟨i,J,xs,hi,by rw[z];exact ha⟩);rw[bj this];exact e
 refine⟨by simpa using s.len,λ j d' h=>?_,λ j b ys h=>?_,λ j k b b' ys zs x I o h3 h4=>?_,s.st.mono m,λ b u I o=>?_,λ b hb=>?_,λ x u hz=>?_⟩
 .have e:i≠j:= λ e=>by subst e;rw[List.getElem?_set_self aa]at h;cases h
  rw[List.getElem?_set_ne e]at h;obtain⟨v',e',r⟩:=s.pu j d' h;exact⟨v',e',r.mono m⟩
 .by_cases e:i=j
  .subst e;rw[List.getElem?_set_self aa]at h;cases h;exact⟨a,U,ha,bz,hv.mono m,hB,ab,hZ⟩
  .rw[List.getElem?_set_ne e]at h;obtain⟨b1,ws,e',I,o,h3⟩:=s.ow j b ys h;have:b1≠a:= λ z=>e (s.ne i j _ _ xs ys a hi h ha (by rw[e',z]));exact⟨b1,ws,e',by rw[bj this];exact I,o.mono m,h3⟩
 .have g: ∀(j:Nat) b ys,(δ.set i (.ow J C))[j]?=some (.ow b ys)-> ∃b ys,δ[j]?=some (.ow b ys):= λ j b ys h=>by grind
  obtain⟨c1,af,I⟩:=g j b ys I;obtain⟨c2,ag,o⟩:=g k b' zs o;exact s.ne j k c1 c2 af ag x I o h3 h4
 .have:b≠a:= λ z=>by subst z;cases J with
   |true=>exact I (hB rfl)
   |false=>rw[(ab rfl).2]at o;cases o
  rw[bj this];exact s.keep b u I o
 .by_cases e:b=a;. subst e;exact⟨_,bz⟩
  .rw[bj e];exact s.bb b hb
 .have:x≠a:= λ e=>by rw[e,hZ]at hz;cases hz
  rw[bj this];exact s.zk x u hz
theorem Sl.ext(s:Sl c δ S σ T H)(k:Nat):Sl c (δ++List.replicate k .un) S (σ++List.replicate k none) T H:=by
 have g: ∀(i:Nat) x,(δ++List.replicate k Slot.un)[i]?=some x->x≠ .un->δ[i]?=some x:= λ i x h n=>by grind
 have o: ∀(i:Nat) x,δ[i]?=some x->(σ++List.replicate k none)[i]?=σ[i]?:= λ i x h=>by rw[List.getElem?_append_left (by rw[<- s.len];exact(List.getElem?_eq_some_iff.mp h).1)]
 have aa: ∀a,vi (δ++List.replicate k .un) (σ++List.replicate k none) a->vi δ σ a:= λ a ⟨j,b,xs,J,I⟩=>by have C:=g j _ J (by simp);rw[o j _ C]at I;exact⟨j,b,xs,C,I⟩
 have m: ∀b u,gC c δ σ H b=some u->gC c (δ++List.replicate k .un) (σ++List.replicate k none) H b=some u:=bP (λ a u e z=>z.elim .inl λ z=> .inr (aa a z)) λ a u _ e=>e;refine⟨by simp[s.len],λ j d' h=>?_,λ j b xs h=>?_,λ j l b b' xs ys a J I h3 h4=>?_,s.st.mono m,s.keep,s.bb,s.zk⟩;. have h':=g j _ h (by simp);obtain⟨v,e,r⟩:=s.pu j d' h';exact⟨v,by rw[o j _ h'];exact e,r.mono m⟩
 .have h':=g j _ h (by simp);obtain⟨a,vs,e,J,I,h3⟩:=s.ow j b xs h';exact⟨a,vs,by rw[o j _ h'];exact e,J,I.mono m,h3⟩
 .have C:=g j _ J (by simp);have U:=g l _ I (by simp);rw[o j _ C]at h3;rw[o l _ U]at h4;exact s.ne j l b b' xs ys a C U h3 h4
theorem Sl.cut(s:Sl c δ S σ T H)(n:Nat):Sl c (δ.take n) S (σ.take n) T H:=by
 have g: ∀(i:Nat) x,(δ.take n)[i]?=some x->i<n/\δ[i]?=some x:= λ i x h=>by grind
 have aa: ∀a,vi (δ.take n) (σ.take n) a->vi δ σ a:= λ a ⟨j,b,xs,J,I⟩=>by obtain⟨o,C⟩:=g j _ J;rw[List.getElem?_take_of_lt o]at I;exact⟨j,b,xs,C,I⟩
 have m: ∀b u,gC c δ σ H b=some u->gC c (δ.take n) (σ.take n) H b=some u:=bP (λ a u e z=>z.elim .inl λ z=> .inr (aa a z)) λ a u _ e=>e;refine⟨by simp[s.len],λ j d' h=>?_,λ j b xs h=>?_,λ j l b b' xs ys a J I U h4=>?_,s.st.mono m,s.keep,s.bb,s.zk⟩;. obtain⟨o,h'⟩:=g j _ h;obtain⟨v,e,r⟩:=s.pu j d' h';exact⟨v,by rw[List.getElem?_take_of_lt o];exact e,r.mono m⟩
 .obtain⟨o,h'⟩:=g j _ h;obtain⟨a,vs,e,J,I,U⟩:=s.ow j b xs h';exact⟨a,vs,by rw[List.getElem?_take_of_lt o];exact e,J,I.mono m,U⟩
 .obtain⟨o,C⟩:=g j _ J;obtain⟨hl,ab⟩:=g l _ I;rw[List.getElem?_take_of_lt o]at U;rw[List.getElem?_take_of_lt hl]at h4;exact s.ne j l b b' xs ys a C ab U h4
end
noncomputable def M(α:Type):=DS->Option (α×DS)
noncomputable instance:Monad M where
 pure a:=fun s=>some (a,s)
 bind x f:=fun s=>match x s with
  | none=>none
  | some (a,s')=>f a s'
noncomputable def lift{α:Type}(o:Option α):M α:= λ s=>match o with
 |none=>none
 |some a=>some (a,s)
theorem M.bind_def(x:M α)(f:α->M β)(s:DS):(x >>= f) s=(match x s with|none=>none|some (a,s')=>f a s'):=rfl
theorem M.pure_def(a:α)(s:DS):(pure a:M α) s=some (a,s):=rfl
inductive Qc {α β:Type} (x:M α) (f:α->M β) (s:DS) (b:β) (s2:DS):Prop
 | mk (a:α) (s1:DS) (e1:x s=some (a,s1)) (e2:f a s1=some (b,s2)):Qc x f s b s2
theorem bind_some (h:(x >>= f) s=some (b,s2)):Qc x f s b s2:= by
 rw [M.bind_def] at h
 cases e:x s with
 | none=>simp_all
 | some p=>obtain ⟨a,s1⟩:=p;rw [e] at h;exact ⟨a,s1,e,h⟩
theorem aZ (h:(pure a:M α) s=some (b,s')):a=b∧s=s':= by
 rw [M.pure_def] at h;grind
theorem bc (h:lift o s=some (b,s')):o=some b∧s=s':= by
 unfold lift at h
 grind
theorem bK: ∀b o,Ep p H b=some o->H b=some o:= λ b o h=>(fO.mp h).2
inductive tM (f:M D) (σ:St) (H:Hp) (Q:VK):Prop
 | mk (c:Ct) (δ:DS) (S:List D) (T:List V) (d:D) (δ':DS) (s:Sl c δ S σ T H) (e:f δ=some (d,δ')) (q:∀ v H',Sl c δ' (d :: S) σ (v :: T) H' -> Q v H'):tM f σ H Q
inductive Eb (f:M Bool) (σ:St) (H:Hp) (Q:Bool->Hp->Prop):Prop
 | mk (c:Ct) (δ:DS) (S:List D) (T:List V) (b:Bool) (δ':DS) (s:Sl c δ S σ T H) (e:f δ=some (b,δ')) (q:∀ H',Sl c δ' S σ T H' -> Q b H'):Eb f σ H Q
inductive Oy (f:M (List D)) (σ:St) (H:Hp) (Q:List V->Hp->Prop):Prop
 | mk (c:Ct) (δ:DS) (S:List D) (T:List V) (ds:List D) (δ':DS) (s:Sl c δ S σ T H) (e:f δ=some (ds,δ')) (q:∀ vs H',vs.length=ds.length->Sl c δ' (ds ++ S) σ (vs ++ T) H' -> Q vs H'):Oy f σ H Q
inductive LZ (f:M (List D)) (σ:St) (H:Hp) (Q:VK):Prop
 | mk (c:Ct) (δ:DS) (S:List D) (T:List V) (xs:List D) (δ':DS) (s:Sl c δ S σ T H) (e:f δ=some (xs,δ')) (q:∀ l vs H',vs.length=xs.length->Sl { c with Z:=upd c.Z l (.lst vs) } δ' (xs ++ S) σ (vs ++ T) H' -> c.Z l=none->l ∉ c.B->c.H0 l=none->Q (.ref l) H'):LZ f σ H Q
noncomputable abbrev DE(X:Cx)(e:Expr)(f:M D):Prop:=PE X e (tM f)
noncomputable abbrev DT(X:Cx)(e:Expr)(f:M Bool):Prop:=PT X e (Eb f)
noncomputable abbrev DW(X:Cx)(e:Expr)(f:M Bool):Prop:=PW X e (Eb f)
noncomputable abbrev DA(X:Cx)(es:List Expr)(f:M (List D)):Prop:=PA X es (Oy f)
noncomputable abbrev DF(X:Cx)(e:Expr)(f:M (List D)):Prop:=PE X e (LZ f)
theorem dj(h:PE X e t)(w: ∀σ H Q,t' σ H Q->t σ H Q):PE X e t':= λ pins s σ H Q I q=>h pins s σ H Q I (w σ H Q q)
theorem Az(h:PT X e t)(w: ∀σ H Q,t' σ H Q->t σ H Q):PT X e t':= λ pins s σ H Q I q=>h pins s σ H Q I (w σ H Q q)
theorem Ml(h:PW X e t)(w: ∀σ H Q,t' σ H Q->t σ H Q):PW X e t':= λ wh pins s σ H Q I q=>h wh pins s σ H Q I (w σ H Q q)
theorem MW(h:PA X e t)(w: ∀σ H Q,t' σ H Q->t σ H Q):PA X e t':= λ ps pins s σ H Q I q=>h ps pins s σ H Q I (w σ H Q q)
section
variable {X:Cx} {a b e:Expr} {fa fb:M D} {pos:Pos}
noncomputable def aV(i:Nat):M D:= λ o=>match o[i]? with
 |some (.pu d)=>some (d,o)
 |_=>none
theorem pz (h:aV i δ=some (d,δ')):δ[i]? = some (.pu d)∧δ=δ':= by
 unfold aV at h
 grind
theorem aQ(i:Nat){x:Str}{pos:Pos}(C:X.N[i]?=some x:=by rfl)(I:u5 X.env.scope x:=by first | exact Or.inl rfl | exact Or.inr (Or.inl rfl) | exact Or.inr (Or.inr rfl))(hd:(x==("__debug__":Str))=false:=by decide)
  (o:(x==("__classdict__":Str))=false:=by decide):DE X (.Name x pos) (aV i):=dj (dP C I hd o) λ σ H Q ⟨c,δ,S,T,d,J,s,e,k⟩=>by obtain⟨U,rfl⟩:=pz e;obtain⟨v,ev,r⟩:=s.pu i d U;exact⟨v,ev,k v H (s.stk (.cons r s.st))⟩
theorem OC(h:PE X e (tC v))(r: ∀H,R H d v):DE X e (pure d):=dj h λ σ H Q ⟨c,C,S,T,d',o,s,e,k⟩=>by obtain⟨rfl,rfl⟩:=aZ e;exact k v H (s.stk (.cons (r _) s.st))
theorem aY{j pos}:DE X (.Constant (.int i) j pos) (pure (.int i)):=OC v7 λ _=> .mkI
theorem eK{j pos}:DE X (.Constant (.bool i) j pos) (pure (.bl i)):=OC AO λ _=> .mkB
theorem fV{j pos}:DE X (.Constant (.str i) j pos) (pure (.str i)):=OC eG λ _=> .mkS
theorem kC{j pos}:DE X (.Constant .none j pos) (pure .non):=OC JL λ _=> .mkN
theorem bp(h:DF X e f):DE X e (do let xs<- f;pure (.lst xs)):=dj h λ σ H Q ⟨c,C,S,T,d,I,s,e,k⟩=>by obtain⟨xs,o,J,U⟩:=bind_some e;obtain⟨rfl,rfl⟩:=aZ U;exact⟨c,C,S,T,xs,o,s,J,λ l vs H' hl s' hz _ _=>k _ _ (s'.unhideL hl hz)⟩
noncomputable def uF(r:R2)(f:D->D->Option D):Prop:= ∀(c:Ct)(o:DS)(S:List D)(σ:St)(T:List V)(H:Hp)(x y:D)(v u:V)(d:D)(Q:VK),Sl c o (y::x::S) σ (u::v::T) H->f x y=some d->(∀z H',Sl c o (d::S) σ (z::T) H'->Q z H')->r v u H Q
noncomputable def m2(f:D->D->Option D)(fa fb:M D):M D:=do
 let x<- fa
 let y<- fb
 lift (f x y)
theorem xF(hd:uF r f): ∀σ H Q,tM (m2 f fa fb) σ H Q->xu r (tM fa) (tM fb) σ H Q:= λ σ H Q ⟨c,I,S,T,d,J,s,e,k⟩=>by obtain⟨x,o,U,e⟩:=bind_some e;obtain⟨y,C,e2,e⟩:=bind_some e;obtain⟨e3,rfl⟩:=bc e;exact⟨c,I,S,T,x,o,s,U,λ v H1 s1=>⟨c,o,x::S,v::T,y,C,s1,e2,λ u H2 s2=>hd _ _ _ _ _ _ _ _ _ _ _ _ s2 e3 k⟩⟩
theorem lb(o:gD X (binaryOp op) r)(hd:uF r f)(C:DE X a fa)(I:DE X b fb):DE X (.BinOp a op b pos) (m2 f fa fb):=dj (t_ o C I) (xF hd)
theorem ou(o:gD X (compareOp op) r)(hd:uF r f)(C:DE X a fa)(I:DE X b fb)(hm:behindInMarks op b=false:=by first | exact vv _ | rfl):DE X (.Compare a [op] [b] pos) (m2 f fa fb):=dj (FV o C I hm) (xF hd)
theorem Mx(o:D8 X r)(hd:uF r f)(C:DE X a fa)(I:DE X b fb)(hs:l4 b:=by exact fun _ _=>rfl):DE X (.Subscript a b pos) (m2 f fa fb):=dj (C6 o C I hs) (xF hd)
noncomputable def df(C:Int->Int->Bool)(g:Int->Int->D):D->D->Option D
 | .int i,.int j=>if C i j=true then some (g i j)else none
 |_,_=>none
theorem dG(h:df C g x y=some d): ∃i j,x= .int i/\y= .int j/\C i j=true/\d=g i j:=by unfold df at h;grind
theorem u6{o:Int->Int->Bool}{g:Int->Int->V}{g':Int->Int->D}(I: ∀i j,o i j=true->C i j)(J: ∀H i j,R H (g' i j) (g i j)):uF (rI C g) (df o g'):= λ c δ S σ T H x y v u d Q s e k=>by obtain⟨i,j,rfl,rfl,U,rfl⟩:=dG e;have h1:=s.st.head.int;have h2:=s.st.tail.head.int;exact⟨i,j,h2,h1,I i j U,k _ _ (s.stk (.cons (J _ _ _) s.st.tail.tail))⟩
theorem jH{g':Int->Int->D}(o: ∀H i j,R H (g' i j) (g i j)):uF (vE g) (df (λ _ _=>true) g'):= λ c J S σ T H x y v u d Q s e k=>by obtain⟨i,j,rfl,rfl,U,rfl⟩:=dG e;have C:=s.st.head.int;have I:=s.st.tail.head.int;exact⟨i,j,I,C,k _ _ (s.stk (.cons (o _ _ _) s.st.tail.tail))⟩
noncomputable def dY:=df (λ _ _=>true) λ i j=> .int (i+j)
noncomputable def f_:=df (λ _ _=>true) λ i j=> .int (i-j)
noncomputable def oQ:=df (λ i j=>(decide (-(2^64)<i)&&decide (i<2^64))||(decide (-(2^64)<j)&&decide (j<2^64))) λ i j=> .int (i*j)
noncomputable def s_:=df (λ _ j=>decide (0<j)) λ i j=> .int (i%j)
noncomputable def Lr:=df (λ _ j=>decide (0<j)&&decide (j<1073741824)) λ i j=> .int (i/j)
noncomputable def sv:=df (λ _ _=>true) λ i j=> .bl (decide (i<j))
noncomputable def zT:=df (λ _ _=>true) λ i j=> .bl (decide (i<=j))
noncomputable def yO:=df (λ _ _=>true) λ i j=> .bl (decide (j<i))
theorem dA(o:DE X a fa)(C:DE X b fb):DE X (.BinOp a .Add b pos) (m2 dY fa fb):=lb Ks (jH λ _ _ _=> .mkI) o C
theorem fB(o:DE X a fa)(C:DE X b fb):DE X (.BinOp a .Sub b pos) (m2 f_ fa fb):=lb JC (jH λ _ _ _=> .mkI) o C
theorem rb(o:DE X a fa)(C:DE X b fb):DE X (.BinOp a .Mult b pos) (m2 oQ fa fb):=lb J6 (u6 (λ i j h=>by simp at h;exact h) λ _ _ _=> .mkI) o C
theorem se(o:DE X a fa)(C:DE X b fb):DE X (.BinOp a .Mod b pos) (m2 s_ fa fb):=lb La (u6 (λ i j h=>of_decide_eq_true h) λ _ _ _=> .mkI) o C
theorem LK(o:DE X a fa)(C:DE X b fb):DE X (.BinOp a .FloorDiv b pos) (m2 Lr fa fb):=lb EU (u6 (λ i j h=>by simp at h;exact h) λ _ _ _=> .mkI) o C
theorem NZ (ha:DE X a fa) (hb:DE X b fb):DE X (.Compare a [.Lt] [b] pos) (m2 sv fa fb):=ou nU (jH fun _ _ _=>.mkB) ha hb
theorem Mc (ha:DE X a fa) (hb:DE X b fb):DE X (.Compare a [.Gt] [b] pos) (m2 yO fa fb):=ou Ik (jH fun _ _ _=>.mkB) ha hb
noncomputable def dq:D->D->Option D
 | .tup ds,.int i=>jL ds i
 | .lst ds,.int i=>jL ds i
 |_,_=>none
theorem vU(h:Rs H ds vs)(e:jL ds i=some d): ∃v,jL vs i=some v/\R H d v:=by unfold jL at*;rw[h.length];cases q:zE ds.length i with
 |none=>simp_all
 |some j=>rw[q]at e;exact h.get e
theorem Jb:uF (O9 K) dq:= λ c U S σ T H x y v u d Q s e k=>by cases x with
 |tup ds=>cases y with
  |int i=>have o:jL ds i=some d:=e;obtain⟨p,vs,rfl,C,I⟩:=s.st.tail.head.tup;obtain⟨z,J,r⟩:=vU I o;exact .inr (.inl ⟨p,vs,i,z,rfl,s.st.head.int,.of (bK _ _ C),J,k _ _ (s.stk (.cons r s.st.tail.tail))⟩)
  |_=>cases e
 |lst ds=>cases y with
  |int i=>have o:jL ds i=some d:=e;obtain⟨p,vs,rfl,C,I⟩:=s.st.tail.head.lst;obtain⟨z,J,r⟩:=vU I o;exact .inl ⟨p,vs,i,z,rfl,s.st.head.int,.inl (Rd.mono bK C),J,k _ _ (s.stk (.cons r s.st.tail.tail))⟩
  |_=>cases e
 |_=>cases e
theorem bt(o:DE X a fa)(C:DE X b fb)(hs:l4 b:=by exact fun _ _=>rfl):DE X (.Subscript a b pos) (m2 dq fa fb):=Mx Bk Jb o C hs
noncomputable def dD:D->M Bool
 | .bl b=>pure b
 |_=>lift none
theorem jN{b:Bool}{C o:DS}(h:dD d C=some (b,o)):d= .bl b/\C=o:=by
 unfold dD at h;split at h;. obtain⟨rfl,rfl⟩:=aZ h;simp
 .cases h
theorem ic(C:gD X (compareOp op) r)(hd:uF r f)(I:DE X a fa)(J:DE X b fb)(hm:behindInMarks op b=false:=by first | exact vv _ | rfl):DT X (.Compare a [op] [b] pos) (m2 f fa fb >>= dD):=
 Az (q0 C I J hm) λ σ H Q ⟨c,U,S,T,d,aa,s,e,k⟩=>by obtain⟨x,o,e1,e⟩:=bind_some e;obtain⟨rfl,rfl⟩:=jN e;exact xF hd σ H _ ⟨c,U,S,T,.bl d,o,s,e1,λ v H' s'=>⟨d,s'.st.head.bl,k _ s'.pop⟩⟩
theorem Oa (ha:DE X a fa) (hb:DE X b fb):DT X (.Compare a [.Lt] [b] pos) (m2 sv fa fb >>= dD):=ic nU (jH fun _ _ _=>.mkB) ha hb
theorem Iz (ha:DE X a fa) (hb:DE X b fb):DT X (.Compare a [.Gt] [b] pos) (m2 yO fa fb >>= dD):=ic Ik (jH fun _ _ _=>.mkB) ha hb
noncomputable def eL:D->Option Bool
 | .non=>some false
 | .bl b=>some b
 | .int i=>some (i !=0)
 | .str _=>none
 | .tup ds=>some (!ds.isEmpty)
 | .lst ds=>some (!ds.isEmpty)
 | .dct=>none
 | .dic _=>none
 | .dip _=>none
theorem mh(h:Rs H ds vs):(!ds.isEmpty)= !vs.isEmpty:=by cases ds with
 |nil=>rw[h.inv0];rfl
 |cons d ds=>obtain⟨v,r,e,_⟩:=h.inv;grind
theorem E9{J H:Hp}{d:D}{v:V}{b:Bool}(m: ∀b o,J b=some o->H b=some o)(r:R J d v)(e:eL d=some b):E_ K v H b:=by cases d with
 |non=>cases r.non;cases e;rfl
 |bl x=>cases r.bl;cases e;rfl
 |int i=>cases r.int;cases e;rfl
 |str x=>cases e
 |dct=>cases e
 |dic _=>cases e
 |dip _=>cases e
 |tup ds=>obtain⟨p,vs,rfl,C,I⟩:=r.tup;cases e;exact .inr (.inl ⟨vs,.of (m _ _ C),mh I⟩)
 |lst ds=>obtain⟨p,vs,rfl,C,I⟩:=r.lst;cases e;exact .inl ⟨vs,.inl (Rd.mono m C),mh I⟩
theorem cP(C:DE X a fa)(he: ∀whole,isTrue a X.env whole=(do let v<- whole;standAt a.pos;holding [v] (truthy v)):=by intro _;rfl):DT X a (do let x<- fa;lift (eL x)):=
 Az (uI C he) λ σ H Q ⟨c,I,S,T,d,J,s,e,k⟩=>by obtain⟨x,o,U,e⟩:=bind_some e;obtain⟨e2,rfl⟩:=bc e;exact⟨c,I,S,T,x,o,s,U,λ v H' s'=>⟨d,E9 bK s'.st.head e2,k _ s'.pop⟩⟩
noncomputable def qL(fa fb:M Bool):M Bool:=do
 let x<- fa
 if x=true then fb else pure false
noncomputable def vj(fa fb:M Bool):M Bool:=do
 let x<- fa
 if x=true then pure true else fb
noncomputable def fC(fa:M Bool):M Bool:=do
 let x<- fa
 pure (!x)
variable {ta tb:M Bool} {rest:List Expr}
theorem l8(o:DT X a ta):DW X (.BoolOp .And [a] pos) ta:=Fs o
theorem iX(o:DT X a ta):DW X (.BoolOp .Or [a] pos) ta:=BX o
theorem nK(I:DT X a ta)(J:DW X (.BoolOp .And (b::rest) pos) tb):DW X (.BoolOp .And (a::b::rest) pos) (qL ta tb):=Ml (K7 I J) λ σ H Q ⟨c,U,S,T,d,C,s,e,k⟩=>by obtain⟨x,o,e1,e⟩:=bind_some e;refine⟨c,U,S,T,x,o,s,e1,λ H' s'=>?_⟩;cases x with
 |true=>exact⟨c,o,S,T,d,C,s',e,k⟩
 |false=>obtain⟨rfl,rfl⟩:=aZ e;simp_all
theorem j_(I:DT X a ta)(J:DW X (.BoolOp .Or (b::rest) pos) tb):DW X (.BoolOp .Or (a::b::rest) pos) (vj ta tb):=Ml (HR I J) λ σ H Q ⟨c,U,S,T,d,C,s,e,k⟩=>by obtain⟨x,o,e1,e⟩:=bind_some e;refine⟨c,U,S,T,x,o,s,e1,λ H' s'=>?_⟩;cases x with
 |false=>exact⟨c,o,S,T,d,C,s',e,k⟩
 |true=>obtain⟨rfl,rfl⟩:=aZ e;simp_all
theorem lB(h:DW X a ta):DT X a ta:=h.pt
theorem dR(C:DT X a ta):DT X (.UnaryOp .Not a pos) (fC ta):=Az (Ak C) λ σ H Q ⟨c,I,S,T,d,J,s,e,k⟩=>by obtain⟨x,o,U,e⟩:=bind_some e;obtain⟨rfl,rfl⟩:=aZ e;exact⟨c,I,S,T,x,o,s,U,λ H' s'=>k _ s'⟩
noncomputable def rK(fa fb:M D):M D:=do
 let x<- fa
 match x with
 | .bl true=>fb
 | .bl false=>pure (.bl false)
 |_=>lift none
noncomputable def AV(fa:M D):M D:=do
 let x<- fa
 match x with
 | .bl b=>pure (.bl (!b))
 |_=>lift none
theorem kr(h:DE X a fa):DE X (.BoolOp op [a] pos) fa:=Lj h
theorem kK(I:DE X a fa)(J:DE X (.BoolOp .And (b::rest) pos) fb):DE X (.BoolOp .And (a::b::rest) pos) (rK fa fb):=dj (Lh I J) λ σ H Q ⟨c,U,S,T,d,C,s,e,k⟩=>by obtain⟨x,o,e1,e⟩:=bind_some e;refine⟨c,U,S,T,x,o,s,e1,λ v H' s'=>?_⟩;cases x with
 |bl q=>cases q with
  |true=>exact⟨true,s'.st.head.bl,PB ⟨c,o,S,T,d,C,s'.pop,e,k⟩⟩
  |false=>obtain⟨rfl,rfl⟩:=aZ e;exact⟨false,s'.st.head.bl,PV (k _ _ (s'.stk (.cons .mkB s'.st.tail)))⟩
 |_=>cases e
theorem Dd(C:DE X a fa):DE X (.UnaryOp .Not a pos) (AV fa):=dj (JM C) λ σ H Q ⟨c,I,S,T,d,J,s,e,k⟩=>by obtain⟨x,o,U,e⟩:=bind_some e;refine⟨c,I,S,T,x,o,s,U,λ v H' s'=>?_⟩;cases x with
 |bl q=>obtain⟨rfl,rfl⟩:=aZ e;exact⟨q,s'.st.head.bl,k _ _ (s'.stk (.cons .mkB s'.st.tail))⟩
 |_=>cases e
noncomputable def eY{α:Type}(t:M Bool)(fa fb:M α):M α:=do
 let x<- t
 if x=true then fa else fb
theorem N2(I:DT X t ta)(J:DE X a fa)(U:DE X b fb):DE X (.IfExp t a b pos) (eY ta fa fb):=dj (D1 I J U) λ σ H Q ⟨c,δ,S,T,d,C,s,e,k⟩=>by obtain⟨x,o,e1,e⟩:=bind_some e;refine⟨c,δ,S,T,x,o,s,e1,λ H' s'=>?_⟩;cases x with
 |true=>exact⟨c,o,S,T,d,C,s',e,k⟩
 |false=>exact⟨c,o,S,T,d,C,s',e,k⟩
variable {es:List Expr} {fs:M (List D)}
theorem aU:DA X [] (pure []):=MW da λ σ H Q ⟨c,C,S,T,d,o,s,e,k⟩=>by obtain⟨rfl,rfl⟩:=aZ e;exact k [] H rfl s
noncomputable def aR(fa:M D)(fs:M (List D)):M (List D):=do
 let x<- fa
 let xs<- fs
 pure (x::xs)
theorem aO(J:DE X a fa)(U:DA X es fs)(hs:starEach (a::es) X.env=(false,eval a X.env)::starEach es X.env:=by rfl):DA X (a::es) (aR fa fs):=MW (bu J U hs) λ σ H Q ⟨c,δ,S,T,d,aa,s,e,k⟩=>by obtain⟨x,o,e1,e⟩:=bind_some e;obtain⟨xs,C,e2,e⟩:=bind_some e;obtain⟨rfl,rfl⟩:=aZ e;refine⟨c,δ,S,T,x,o,s,e1,λ v H1 s1=>⟨c,o,x::S,v::T,xs,C,s1,e2,λ vs H2 l s2=>k (v::vs) H2 (by grind) (s2.stk ?_)⟩⟩;have h1:=s2.st.left l;have I:=s2.st.right l;exact .cons I.head (h1.append I.tail)
noncomputable def few(n:Nat):Option Unit:=if n<=100000 then some ()else none
theorem ki(h:few n=some u):n<=sizeLine/\n<sizeLine:=by
 unfold few at h;split at h
 .have:100000<sizeLine:=by decide
  omega
 grind
noncomputable def dm(fs:M (List D)):M D:=do
 let ds<- fs
 let _<- lift (few ds.length)
 pure (.tup ds)
noncomputable def dW(fs:M (List D)):M (List D):=do
 let ds<- fs
 let _<- lift (few ds.length)
 pure ds
theorem cc(h:DA X es fs):DE X (.Tuple es x1 pos) (dm fs):=dj (Jy h) λ σ H Q ⟨c,C,S,T,d,I,s,e,k⟩=>by obtain⟨ds,o,J,e⟩:=bind_some e;obtain⟨_,U,e2,e⟩:=bind_some e;obtain⟨e3,rfl⟩:=bc e2;obtain⟨rfl,rfl⟩:=aZ e;exact⟨c,C,S,T,ds,o,s,J,λ vs H1 l s1=>⟨by rw[l];exact(ki e3).1,λ p hp=>k _ _ (s1.newTup l hp)⟩⟩
theorem cF(h:DA X es fs):DF X (.List es pos) (dW fs):=dj (kM h) λ σ H Q ⟨c,I,S,T,d,J,s,e,k⟩=>by obtain⟨ds,o,U,e⟩:=bind_some e;obtain⟨_,aa,e2,e⟩:=bind_some e;obtain⟨e3,rfl⟩:=bc e2;obtain⟨rfl,rfl⟩:=aZ e;refine⟨c,I,S,T,ds,o,s,U,λ vs H1 l s1=>⟨by rw[l];exact(ki e3).1,λ p C=>?_⟩⟩;obtain⟨f1,f2,f3⟩:=s1.fresh C;exact k p vs _ l (s1.hide C) f1 f2 f3
noncomputable def ig(r:List V->Hp->VK->Prop)(f:List D->Option D):Prop:= ∀(c:Ct)(o:DS)(S:List D)(σ:St)(T:List V)(H:Hp)(ds:List D)(vs:List V)(d:D)(Q:VK),vs.length=ds.length->Sl c o (ds++S) σ (vs++T) H->f ds=some d->(∀z H',Sl c o (d::S) σ (z::T) H'->Q z H')->r vs H Q
noncomputable def A4(r:List V->Hp->VK->Prop)(f:List D->Option (List D)):Prop:= ∀(c:Ct)(o:DS)(S:List D)(σ:St)(T:List V)(H:Hp)(ds:List D)(vs:List V)(xs:List D)(Q:VK),vs.length=ds.length->Sl c o (ds++S) σ (vs++T) H->f ds=some xs->
 (∀l ws H',ws.length=xs.length->Sl { c with Z:=upd c.Z l (.lst ws) } o (xs++S) σ (ws++T) H'->c.Z l=none->l∉c.B->c.H0 l=none->Q (.ref l) H')->r vs H Q
noncomputable def mC{α:Type}(f:List D->Option α)(fs:M (List D)):M α:=do
 let ds<- fs
 lift (f ds)
variable {x:Str} {p:Pos} {id T:String} {r:List V->Hp->VK->Prop} {f:List D->Option D} {g:List D->Option (List D)}
theorem HG(hd:ig r f): ∀σ H Q,tM (mC f fs) σ H Q->OX r (Oy fs) σ H Q:= λ σ H Q ⟨c,C,S,T,d,I,s,e,k⟩=>by obtain⟨ds,o,J,e⟩:=bind_some e;obtain⟨U,rfl⟩:=bc e;exact⟨c,C,S,T,ds,o,s,J,λ vs H1 l s1=>hd _ _ _ _ _ _ _ _ _ _ l s1 U k⟩
theorem Kb(hd:A4 r g): ∀σ H Q,LZ (mC g fs) σ H Q->OX r (Oy fs) σ H Q:= λ σ H Q ⟨c,C,S,T,d,I,s,e,k⟩=>by obtain⟨ds,o,J,e⟩:=bind_some e;obtain⟨U,rfl⟩:=bc e;exact⟨c,C,S,T,ds,o,s,J,λ vs H1 l s1=>hd _ _ _ _ _ _ _ _ _ _ l s1 U k⟩
noncomputable def cj:List D->Option D
 |[.tup ds]=>some (.int ds.length)
 |[.lst ds]=>some (.int ds.length)
 |_=>none
theorem tK(h:Rs H [d] vs): ∃v,vs=[v]/\R H d v:=by obtain⟨v,r,e,C,o⟩:=h.inv;rw[o.inv0]at e;grind
theorem OE(h:Rs H [d,d'] vs): ∃v u,vs=[v,u]/\R H d v/\R H d' u:=by obtain⟨v,r,e,C,o⟩:=h.inv;obtain⟨u,rfl,I⟩:=tK o;grind
theorem Kk:ig (λ xs H Q=> ∃p ys,xs=[.ref p]/\(jr K H p ys\/gm K H p ys)/\Q (.int ys.length) H) cj:= λ c J S σ T H ds vs d Q l s e k=>by
 have h:=s.st.left l;have I:=s.st.right l;unfold cj at e;split at e;. obtain⟨v,rfl,r⟩:=tK h;obtain⟨p,ws,rfl,o,C⟩:=r.tup;cases e;exact⟨p,ws,rfl,.inr (.of (bK _ _ o)),k _ _ (s.stk (.cons (by rw[C.length];exact .mkI) I))⟩
 .obtain⟨v,rfl,r⟩:=tK h;obtain⟨p,ws,rfl,o,C⟩:=r.lst;cases e;exact⟨p,ws,rfl,.inl (.inl (Rd.mono bK o)),k _ _ (s.stk (.cons (by rw[C.length];exact .mkI) I))⟩
 grind
theorem fv(I:du X (.builtin id) r)(hd:ig r f)(J:Gl X x)(hm:X.mg x=none)(U:bootBuiltins x=some (.builtin id))(ha:DA X (a::es) fs)(hn:x≠"__name__":=by decide)(o:(x==("__debug__":Str))=false:=by decide)
  (he:starEach (a::es) X.env=(false,eval a X.env)::starEach es X.env:=by rfl)(C:(backTo pos (starEach es X.env)).any (·.1)=false:=by rfl):DE X (.Call (.Name x p) (a::es) [] pos) (mC f fs):=
 dj (fo I J hm U ha hn o he C) (HG hd)
end
inductive Fl where
 | nx | bk | ct | rt (d:D) | rf (xs:List D)
noncomputable def Fin(c:Ct)(o:DS)(S:List D)(T:List V)(C:Fl)(E:Ends):Prop:=
 match C with
 | .nx=> ∀σ H,Sl c o S σ T H->E.nx σ H
 | .bk=> ∀σ H,Sl c o S σ T H->E.bk σ H
 | .ct=> ∀σ H,Sl c o S σ T H->E.ct σ H
 | .rt d=> ∀v σ H,Sl c o (d::S) σ (v::T) H->E.rt v H
 | .rf xs=> ∀l vs σ H,vs.length=xs.length->Sl { c with Z:=upd c.Z l (.lst vs) } o (xs++S) σ (vs++T) H->c.Z l=none->l∉c.B->c.H0 l=none->E.rt (.ref l) H
inductive Nx (f:M Fl) (E:Ends) (σ:St) (H:Hp):Prop
 | mk (c:Ct) (δ:DS) (S:List D) (T:List V) (fl:Fl) (δ':DS) (s:Sl c δ S σ T H) (e:f δ=some (fl,δ')) (q:Fin c δ' S T fl E):Nx f E σ H
noncomputable abbrev qe(X:Cx)(st:Stmt)(f:M Fl):Prop:=PS X st (Nx f)
noncomputable abbrev vf(X:Cx)(st:List Stmt)(f:M Fl):Prop:=oI X st (Nx f)
theorem jW(h:PS X e t)(w: ∀E σ H,t' E σ H->t E σ H):PS X e t':= λ pins s σ H Q I q=>h pins s σ H Q I (w Q σ H q)
theorem Ir(h:oI X e t)(w: ∀E σ H,t' E σ H->t E σ H):oI X e t':= λ pins s σ H Q I q=>h pins s σ H Q I (w Q σ H q)
section
variable {X:Cx} {a b e:Expr} {fa:M D} {fF:M (List D)} {pos:Pos} {st:Stmt} {rest:List Stmt} {f g:M Fl} {tt:M Bool}
theorem bQ:vf X [] (pure .nx):=Ir yh λ E σ H ⟨c,C,S,T,I,o,s,e,k⟩=>by obtain⟨rfl,rfl⟩:=aZ e;exact k σ H s
noncomputable def br(f g:M Fl):M Fl:=do
 let o<- f
 match o with
 | .nx=>g
 |o=>pure o
theorem aX(J:qe X st f)(U:vf X rest g):vf X (st::rest) (br f g):=Ir (gN J U) λ E σ H ⟨c,δ,S,T,fl,I,s,e,k⟩=>by obtain⟨o,C,e1,e⟩:=bind_some e;refine⟨c,δ,S,T,o,C,s,e1,?_⟩;cases o with
 |nx=>exact λ aa H' s'=>⟨c,C,S,T,fl,I,s',e,k⟩
 |bk=>obtain⟨rfl,rfl⟩:=aZ e;exact k
 |ct=>obtain⟨rfl,rfl⟩:=aZ e;exact k
 |rt d=>obtain⟨rfl,rfl⟩:=aZ e;exact k
 |rf xs=>obtain⟨rfl,rfl⟩:=aZ e;exact k
theorem a_(o:qe X st f):vf X [st] f:=l3 o
theorem bw(he:DE X e fa):qe X (.Return (some e) pos) (do let d<- fa;pure (.rt d)):=jW (sx he) λ E σ H ⟨c,C,S,T,U,I,s,e,k⟩=>by obtain⟨d,o,J,e⟩:=bind_some e;obtain⟨rfl,rfl⟩:=aZ e;exact⟨c,C,S,T,d,o,s,J,λ v H' s'=>k v σ H' s'⟩
theorem qO(he:DF X e fF):qe X (.Return (some e) pos) (do let d<- fF;pure (.rf d)):=jW (sx he) λ E σ H ⟨c,C,S,T,fl,I,s,e,k⟩=>by obtain⟨d,o,J,e⟩:=bind_some e;obtain⟨rfl,rfl⟩:=aZ e;exact⟨c,C,S,T,d,o,s,J,λ l vs H' U h2 h3 h4 h5=>k l vs σ H' U h2 h3 h4 h5⟩
noncomputable def kX(i:Nat):M (List D):= λ o=>match o[i]? with
 |some (.ow false xs)=>some (xs,o.set i .un)
 |_=>none
theorem Ag(i:Nat){x:Str}{pos:Pos}(J:X.N[i]?=some x:=by rfl)(U:u5 X.env.scope x:=by first | exact Or.inl rfl | exact Or.inr (Or.inl rfl) | exact Or.inr (Or.inr rfl))(hd:(x==("__debug__":Str))=false:=by decide)
  (o:(x==("__classdict__":Str))=false:=by decide):DF X (.Name x pos) (kX i):=dj (dP J U hd o) λ σ H Q ⟨c,δ,S,T,xs,aa,s,e,k⟩=>by
 unfold kX at e;split at e;. rename_i ys C;cases e;obtain⟨a,ab,I,_⟩:=s.ow i _ _ C;obtain⟨vs,h1,h2,h3,h4,h5⟩:=s.giveOw C I;exact⟨_,I,k a vs H h1 h2 h3 h4 h5⟩
 grind
theorem cM(J:DT X t tt)(U:vf X as f)(hb:vf X bs g):qe X (.If t as bs pos) (eY tt f g):=jW (HI J U hb) λ E σ H ⟨c,δ,S,T,I,C,s,e,k⟩=>by obtain⟨x,o,e1,e⟩:=bind_some e;refine⟨c,δ,S,T,x,o,s,e1,λ H' s'=>?_⟩;cases x with
 |true=>exact⟨c,o,S,T,I,C,s',e,k⟩
 |false=>exact⟨c,o,S,T,I,C,s',e,k⟩
theorem jl(he:DE X e fa)(hs:swapsWith e none pos.line X.env=pure false:=by rfl):qe X (.Expr e pos) (do let _<- fa;pure .nx):=jW (yd he hs) λ E σ H ⟨c,C,S,T,U,I,s,e,k⟩=>by obtain⟨x,o,J,e⟩:=bind_some e;obtain⟨rfl,rfl⟩:=aZ e;exact⟨c,C,S,T,x,o,s,J,λ v H' s'=>k _ _ s'.pop⟩
noncomputable def bT(i:Nat)(d:D):M Unit:= λ o=>if i<o.length then some ((),o.set i (.pu d))else none
noncomputable def BU(i:Nat)(xs:List D):M Unit:= λ o=>if i<o.length then some ((),o.set i (.ow false xs))else none
theorem kP{u:Unit}(h:bT i d C=some (u,o)):i<C.length/\o=C.set i (.pu d):=by unfold bT at h;grind
theorem qC{u:Unit}(h:BU i d C=some (u,o)):i<C.length/\o=C.set i (.ow false d):=by unfold BU at h;grind
noncomputable def eB(i:Nat)(fa:M D):M Fl:=do
 let d<- fa
 bT i d
 pure .nx
noncomputable def wx(i:Nat)(fF:M (List D)):M Fl:=do
 let d<- fF
 BU i d
 pure .nx
theorem Nc(w: ∀σ H Q,tM fa σ H Q->te σ H Q): ∀E σ H,Nx (eB i fa) E σ H->lH te (ik i) E σ H:= λ E σ H ⟨c,C,S,T,fl,I,s,e,k⟩=>by obtain⟨d,o,J,e⟩:=bind_some e;obtain⟨u,U,e2,e⟩:=bind_some e;obtain⟨rfl,rfl⟩:=aZ e;obtain⟨hi,rfl⟩:=kP e2;exact w _ _ _ ⟨c,C,S,T,d,o,s,J,λ v H' s'=>k _ _ (s'.setPu hi)⟩
theorem MI(w: ∀σ H Q,LZ fF σ H Q->te σ H Q): ∀E σ H,Nx (wx i fF) E σ H->lH te (ik i) E σ H:= λ E σ H ⟨c,C,S,T,fl,I,s,e,k⟩=>by obtain⟨d,o,J,e⟩:=bind_some e;obtain⟨u,U,e2,e⟩:=bind_some e;obtain⟨rfl,rfl⟩:=aZ e;obtain⟨hi,rfl⟩:=qC e2;exact w _ _ _ ⟨c,C,S,T,d,o,s,J,λ l vs H' h1 h2 h3 h4 h5=>k _ _ (h2.setOw h1 h3 h4 h5 hi)⟩
theorem bR(i:Nat){x:Str}{pos':Pos}(o:X.N.Nodup)(he:DE X e fa)(C:X.N[i]?=some x:=by rfl)(hx:Loc X.env.scope x:=by first | exact Or.inl rfl | exact Or.inr rfl)(hs:swapsWith e (some (.Name x pos')) pos.line X.env=pure false:=by rfl)
  (hf:X.fn x=true\/X.env.scope.names.lookup x=some .local:=by first | exact .inl rfl | exact .inr rfl | assumption):qe X (.Assign [.Name x pos'] e pos) (eB i fa):=jW (jC o C hx he hs hf) (Nc λ _ _ _ h=>h)
theorem jc(i:Nat){x:Str}{pos':Pos}(o:X.N.Nodup)(he:DF X e fF)(C:X.N[i]?=some x:=by rfl)(hx:Loc X.env.scope x:=by first | exact Or.inl rfl | exact Or.inr rfl)(hs:swapsWith e (some (.Name x pos')) pos.line X.env=pure false:=by rfl)
  (hf:X.fn x=true\/X.env.scope.names.lookup x=some .local:=by first | exact .inl rfl | exact .inr rfl | assumption):qe X (.Assign [.Name x pos'] e pos) (wx i fF):=jW (jC o C hx he hs hf) (MI λ _ _ _ h=>h)
inductive Pw (lo:Nat) (f:D->M Unit) (v:V) (σ:St) (H:Hp) (Q:St->Hp->Prop):Prop
 | mk (c:Ct) (δ:DS) (S:List D) (T:List V) (d:D) (δ':DS) (s:Sl c δ (d :: S) σ (v :: T) H) (e:f d δ=some ((),δ')) (q:∀ σ' H',(∀ n,n ≤ lo->σ'.take n=σ.take n)->Sl c δ' S σ' T H' -> Q σ' H'):Pw lo f v σ H Q
inductive Nr (lo:Nat) (f:List D->M Unit) (vs:List V) (σ:St) (H:Hp) (Q:St->Hp->Prop):Prop
 | mk (c:Ct) (δ:DS) (S:List D) (T:List V) (ds:List D) (δ':DS) (l:vs.length=ds.length) (s:Sl c δ (ds ++ S) σ (vs ++ T) H) (e:f ds δ=some ((),δ')) (q:∀ σ' H',(∀ n,n ≤ lo->σ'.take n=σ.take n)->Sl c δ' S σ' T H' -> Q σ' H'):Nr lo f vs σ H Q
noncomputable abbrev DG(X:Cx)(lo:Nat)(tg:Expr)(f:D->M Unit):Prop:=PG X tg (Pw lo f)
noncomputable abbrev Oz(X:Cx)(lo:Nat)(tg:List Expr)(f:List D->M Unit):Prop:=JO X tg (Nr lo f)
theorem M8(h:PG X e t)(w: ∀v σ H Q,t' v σ H Q->t v σ H Q):PG X e t':= λ pins s σ H v u Q I r q=>h pins s σ H v u Q I r (w v σ H Q q)
theorem HP{e:List Expr}{t t':Ip}(h:JO X e t)(w: ∀v σ H Q,t' v σ H Q->t v σ H Q):JO X e t':= λ pins s σ H v u Q I r q=>h pins s σ H v u Q I r (w v σ H Q q)
theorem ba(i:Nat){x:Str}{pos:Pos}(I:X.N.Nodup)(o:lo<=i:=by decide)(C:X.N[i]?=some x:=by rfl)(hx:Loc X.env.scope x:=by first | exact Or.inl rfl | exact Or.inr rfl)
  (hf:X.fn x=true\/X.env.scope.names.lookup x=some .local:=by first | exact .inl rfl | exact .inr rfl | assumption):DG X lo (.Name x pos) (bT i):=M8 (Fo I C hx hf) λ v σ H Q ⟨c,δ,S,T,d,J,s,e,k⟩=>by obtain⟨C,rfl⟩:=kP e;exact k _ _ (λ n U=>List.take_set_of_le (Nat.le_trans U o)) (s.setPu C)
noncomputable def gQ:List D->M Unit
 |[]=>pure ()
 |_=>lift none
noncomputable def cN(f:D->M Unit)(g:List D->M Unit):List D->M Unit
 |d::ds=>do
  f d
  g ds
 |_=>lift none
theorem e_:Oz X lo [] gQ:=HP FQ λ v σ H Q ⟨c,C,S,T,ds,o,l,s,e,k⟩=>by cases ds with
 |nil=>obtain⟨_,rfl⟩:=aZ e;have:v=[]:=List.eq_nil_of_length_eq_zero l;subst this;exact⟨rfl,k σ H (λ _ _=>rfl) s⟩
 |cons d ds=>cases e
theorem cg{e:Expr}{es:List Expr}{f:D->M Unit}{g:List D->M Unit}(U:DG X lo e f)(h2:Oz X lo es g)
  (hs:(assignEach (e::es) X.env).map (·.2)=assign e X.env::(assignEach es X.env).map (·.2):=by rfl):Oz X lo (e::es) (cN f g):=HP (DP U h2 hs) λ vs σ H Q ⟨c,δ,S,T,ds,C,l,s,e,k⟩=>by cases ds with
 |nil=>cases e
 |cons d ds=>cases vs with
  |nil=>cases l
  |cons v vs=>obtain⟨u,o,e1,e2⟩:=bind_some e;exact⟨v,vs,rfl,c,δ,ds++S,vs++T,d,o,s,e1,λ aa H1 t1 s1=>⟨c,o,S,T,ds,C,by grind,s1,e2,λ I H2 t2 s2=>k I H2 (λ n J=>(t2 n J).trans (t1 n J)) s2⟩⟩
noncomputable def fQ(n:Nat)(g:List D->M Unit):D->M Unit
 | .tup ds=>if ds.length=n then g ds else lift none
 |_=>lift none
theorem gz{k:Nat}{g:List D->M Unit}{n:Nat}(h:Oz X lo es g)(hc:X.calm=true:=by rfl)
  (hn:(assignEach es X.env).length=n:=by rfl)(C:(assignEach es X.env).findIdx? (·.1)=none:=by rfl):DG X lo (.Tuple es k pos) (fQ n g):=M8 (JJ hc h hn C) λ v σ H Q ⟨c,U,S,T,d,o,s,e,k⟩=>by cases d with
 |tup ds=>
  have I:(if ds.length=n then g ds else lift none) U=some ((),o):=e;split at I;. obtain⟨p,vs,rfl,h1,J⟩:=s.st.head.tup;exact⟨p,vs,rfl,.of (bK _ _ h1),by rw[J.length];omega,c,U,S,T,ds,o,J.length,s.stk (J.append s.st.tail),I,k⟩
  .cases I
 |_=>cases e
theorem DU{g:D->M Unit}(he:DE X e fa)(I:DG X 0 tg g)(hs:swapsWithSole [tg] e pos.line X.env=pure false:=by rfl)(hw:swappedStores [tg] e X.env=pure none:=by rfl)
  (J:(assignEach [tg] X.env).map (·.2)=[assign tg X.env]:=by rfl):qe X (.Assign [tg] e pos) (do let d<- fa;g d;pure .nx):=jW (Bh he I hs hw J) λ E σ H ⟨c,U,S,T,fl,aa,s,e,k⟩=>by obtain⟨d,o,e1,e⟩:=bind_some e;obtain⟨u,C,e2,e⟩:=bind_some e;obtain⟨rfl,rfl⟩:=aZ e;exact⟨c,U,S,T,d,o,s,e1,λ v H' s'=>⟨c,o,S,T,d,C,s',e2,λ ab H2 _ s2=>k _ _ s2⟩⟩
noncomputable abbrev md:=List (DS->Option D)×(DS->Bool)
noncomputable def L5(J:It)(its:md)(C:List D)(I:List V):Prop:= ∀(c:Ct)(o:DS)(S:List D)(σ:St)(T:List V)(H:Hp)(i:Nat),Sl c o (C++S) σ (I++T) H->
 (∀act d,its.1[i]?=some act->act o=some d->J.go i H/\ ∀x H',J.yld i H x H'->Sl c o (d::(C++S)) σ (x::(I++T)) H')/\(i=its.1.length->its.2 o=true->J.stop i H)
inductive P_ (f:M md) (σ:St) (H:Hp) (R:It->Hp->Prop):Prop
 | mk (c:Ct) (δ:DS) (S:List D) (T:List V) (it:md) (δ':DS) (s:Sl c δ S σ T H) (e:f δ=some (it,δ')) (q:∀ J Sx Tx H',Tx.length=Sx.length->L5 J it Sx Tx->Sl c δ' (Sx ++ S) σ (Tx ++ T) H' -> R J H'):P_ f σ H R
noncomputable abbrev DI(X:Cx)(tg iter:Expr)(f:M md):Prop:=PI X tg iter (P_ f)
theorem vH{tg e:Expr}{t t':TI}(h:PI X tg e t)(w: ∀σ H Q,t' σ H Q->t σ H Q):PI X tg e t':= λ pins s σ H Q I q=>h pins s σ H Q I (w σ H Q q)
noncomputable def bC(ds:List D):md:=(ds.map λ d _=>some d,λ _=>true)
theorem gJ{i:Nat}{act:DS->Option D}{o:DS}{d:D}(h:(bC ds).1[i]?=some act)(e:act o=some d):ds[i]?=some d:=by unfold bC at h;grind
theorem FG{X:Cx}(hK:X.K=K){a:Addr}{ds:List D}:L5 (O_ K a) (bC ds) [.tup ds] [.ref a]:= λ c δ S σ T H i s=>by obtain⟨p,vs,e,J,C⟩:=s.st.head.tup;cases e;have o:gm K H a vs:= .of (bK _ _ J);refine⟨λ act d U hd=>?_,λ e _=>⟨vs,o,by rw[C.length,e];simp[bC]⟩⟩;obtain⟨v,I,r⟩:=C.get (gJ U hd);refine⟨⟨vs,v,o,I⟩,λ x H' y=>?_⟩;obtain⟨rfl,y⟩:=y;have:=y vs o;rw[I]at this;cases this;exact s.stk (.cons r s.st)
theorem Fu{a:Addr}{ds:List D}:L5 (OU K a) (bC ds) [.lst ds] [.ref a]:= λ c δ S σ T H i s=>by obtain⟨p,vs,e,J,C⟩:=s.st.head.lst;cases e;have o:jr K H a vs:= .inl (Rd.mono bK J);refine⟨λ act d U hd=>?_,λ e _=>⟨vs,o,by rw[C.length,e];simp[bC]⟩⟩;obtain⟨v,I,r⟩:=C.get (gJ U hd);refine⟨⟨vs,v,o,I⟩,λ x H' y=>?_⟩;obtain⟨rfl,y⟩:=y;have:=y vs o;rw[I]at this;cases this;exact s.stk (.cons r s.st)
noncomputable def bH:D->Option md
 | .tup ds=>some (bC ds)
 | .lst ds=>some (bC ds)
 |_=>none
theorem Lq{tg l:Expr}{U:TE}(hl:PE X l U):PI X tg l (λ σ H R=>U σ H λ x H1=> ∃a,x= .ref a/\(((∃xs,jr X.K H1 a xs)/\R (OU X.K a) H1)\/((∃xs,gm X.K H1 a xs)/\R (O_ X.K a) H1))):=by
 intro pins s σ H R I h;refine c_ (hl pins s σ H _ I h) λ v s1 ⟨x,H1,C,r1,q1⟩=>?_;obtain⟨a,e,q⟩:=q1;subst e;cases r1;rcases q with⟨⟨xs,J⟩,q⟩|⟨⟨xs,J⟩,q⟩
 .obtain⟨its,rv,p,hz⟩:=C.list J;refine wpAny_pyIter_list p.isList ?_;refine⟨s1.heap.objs.size,[s1.heap.objs.size],_,_,H1,rfl,C.kept (t':=s1.toks) λ b o e=>Heap.get?_push_of_some _ e,pw a _,⟨_,Heap.get?_push_size _ rfl,rfl,rfl⟩,λ b hb=>?_,q⟩;have e:b=s1.heap.objs.size:=by simp_all
  subst e;exact C.fpOk (Nat.le_refl _) (C.hok.fresh (Nat.le_refl _))
 .obtain⟨its,rv,p,hz⟩:=C.tuple J;refine wpAny_pyIter_tuple (show s1.heap.IsTuple a its.toArray from p) ?_;refine⟨s1.heap.objs.size,[s1.heap.objs.size],_,_,H1,rfl,C.kept (t':=s1.toks) λ b o e=>Heap.get?_push_of_some _ e,vT a _,⟨_,Heap.get?_push_size _ rfl,rfl,rfl⟩,λ b hb=>?_,q⟩;have e:b=s1.heap.objs.size:=by simpa using hb
  subst e;exact C.fpOk (Nat.le_refl _) (C.hok.fresh (Nat.le_refl _))
theorem cG{tg l:Expr}(J:DE X l fa):DI X tg l (do let x<- fa;lift (bH x)):=vH (Lq J) λ σ H R ⟨c,U,S,T,it,aa,s,e,k⟩=>by obtain⟨x,o,e1,e⟩:=bind_some e;obtain⟨C,rfl⟩:=bc e;refine⟨c,U,S,T,x,o,s,e1,λ v H' s'=>?_⟩;cases x with
 |tup ds=>cases C;obtain⟨p,vs,rfl,I,h2⟩:=s'.st.head.tup;exact⟨p,rfl,.inr ⟨⟨vs,.of (bK _ _ I)⟩,k _ [.tup ds] [.ref p] H' rfl (FG rfl) s'⟩⟩
 |lst ds=>cases C;obtain⟨p,vs,rfl,I,h2⟩:=s'.st.head.lst;exact⟨p,rfl,.inl ⟨⟨vs,.inl (Rd.mono bK I)⟩,k _ [.lst ds] [.ref p] H' rfl Fu s'⟩⟩
 |_=>cases C
noncomputable def cb(lo:Int)(n:Nat):List D:=(List.range n).map λ(i:Nat)=>D.int (lo+(i:Int))
theorem x3:L5 (NV lo n) (bC (cb lo n)) [] []:= λ c I S σ T H i s=>by
 refine⟨λ act d C hd=>?_,λ e _=>by
  have:(bC (cb lo n)).1.length=n:=by simp[bC,cb]
  show n<=i;omega⟩;have h:=gJ C hd;unfold cb at h;rw[List.getElem?_map]at h;have o:i<n:=by grind
 rw[List.getElem?_range o]at h;cases h;refine⟨o,λ x H' y=>?_⟩;obtain⟨rfl,rfl⟩:=y;exact s.stk (.cons .mkI s.st)
noncomputable def d5(i:Int):Bool:=decide (-(2^62)<=i)&&decide (i<2^62)
noncomputable def dz:List D->Option md
 |[.int j]=>if d5 j=true then some (bC (cb 0 j.toNat))else none
 |_=>none
noncomputable def zO:List D->Option md
 |[.int i,.int j]=>if(d5 i&&d5 j)=true then some (bC (cb i (j-i).toNat))else none
 |_=>none
theorem bZ{tg a:Expr}{p:Pos}{fs:M (List D)}(J:Gl X "range")(hm:X.mg "range"=none)(U:DA X [a] fs)(hs:starEach [a] X.env=[(false,eval a X.env)]:=by rfl):DI X tg (.Call (.Name "range" p) [a] [] pos) (mC dz fs):=
 vH (yC J hm U hs) λ σ H R ⟨c,δ,S,T,it,aa,s,e,k⟩=>by
  obtain⟨ds,C,e1,e⟩:=bind_some e;obtain⟨o,rfl⟩:=bc e;refine⟨c,δ,S,T,ds,C,s,e1,λ vs H' l s'=>?_⟩;unfold dz at o;split at o
  .split at o;. rename_i j I;cases o;obtain⟨v,rfl,r⟩:=tK (s'.st.left l);cases r.int;simp[d5]at I;exact⟨j,rfl,I.1,I.2,k _ [] [] H' rfl x3 (s'.stk (s'.st.right l))⟩
   .cases o
  grind
theorem zv{tg a b:Expr}{p:Pos}{fs:M (List D)}(U:Gl X "range")(hm:X.mg "range"=none)(ha:DA X [a,b] fs)(hs:starEach [a,b] X.env=[(false,eval a X.env),(false,eval b X.env)]:=by rfl)(I:starEach [b] X.env=[(false,eval b X.env)]:=by rfl):
  DI X tg (.Call (.Name "range" p) [a,b] [] pos) (mC zO fs):=
 vH (y4 U hm ha hs I) λ σ H R ⟨c,δ,S,T,it,aa,s,e,k⟩=>by
  obtain⟨ds,J,e1,e⟩:=bind_some e;obtain⟨o,rfl⟩:=bc e;refine⟨c,δ,S,T,ds,J,s,e1,λ vs H' l s'=>?_⟩;unfold zO at o;split at o
  .split at o
   .rename_i i j C;cases o;obtain⟨v,u,rfl,r1,r2⟩:=OE (s'.st.left l);cases r1.int;cases r2.int;simp[d5]at C;exact⟨i,j,rfl,⟨C.1.1,C.1.2,C.2.1,C.2.2⟩,k _ [] [] H' rfl x3 (s'.stk (s'.st.right l))⟩
   .cases o
  grind
noncomputable def dE(i n:Nat):md:=((List.range n).map λ(j:Nat) (o:DS)=>match o[i]? with
 |some (.ow _ xs)=>if xs.length=n then xs[j]? else none
 |_=>none,λ o=>match o[i]? with
 |some (.ow _ xs)=>decide (xs.length=n)
 |_=>false)
noncomputable def bO(i:Nat):M (List D):= λ o=>match o[i]? with
 |some (.ow _ xs)=>some (xs,o)
 |_=>none
theorem cy{C o:DS}(h:bO i C=some (xs,o)):(∃b,C[i]?=some (.ow b xs))/\C=o:=by unfold bO at h;grind
end
section
variable {X:Cx} {a b e tg iter elt:Expr} {te:M D} {pos:Pos} {st:Stmt} {f body:M Fl} {tt:M Bool} {fi:M md} {gt:D->M Unit}
theorem Sl.drop(s:Sl c o (A++S) σ (P++T) H)(l:P.length=A.length):Sl c o S σ T H:=s.stk (s.st.right l)
theorem Sl.rot(s:Sl c C (A++(B++S)) σ (P++(Q++T)) H)(l:P.length=A.length)(o:Q.length=B.length):Sl c C (B++(A++S)) σ (Q++(P++T)) H:=
 s.stk (((s.st.right l).left o).append ((s.st.left l).append ((s.st.right l).right o)))
noncomputable def forM(gt:D->M Unit)(body:M Fl)(fin:DS->Bool):List (DS->Option D)->M Fl
 |[]=> λ o=>if fin o=true then some (.nx,o)else none
 |a::r=> λ o=>match a o with
  |none=>none
  |some d=>(do
   gt d
   let C<- body
   match C with
   | .nx=>forM gt body fin r
   | .ct=>forM gt body fin r
   | .bk=>pure .nx
   | .rt d=>pure (.rt d)
   | .rf d=>pure (.rf d)) o
theorem d4(hi:DI X tg iter fi)(hg:DG X 0 tg gt)(hb:vf X ag body)(hp:PassesOwn (model X.prog X.w) X.A X.env X.xe:=by exact PassesOwn.never)(hc:X.calm=true:=by rfl)
  (hs: ∀x,foldedSetIterable iter X.env x=pure x:=by intro _;rfl):qe X (.For tg iter ag [] pos) (do let it<- fi;forM gt body it.2 it.1):=jW (Jj hp hc hi hg hb hs) λ E ak H0 ⟨c,ah,S,T,fl,aa,s0,e,k⟩=>by
 obtain⟨it,ab,e1,e⟩:=bind_some e;refine⟨c,ah,S,T,it,ab,s0,e1,λ J Sx Tx H1 l hJ s1=>?_⟩;obtain⟨items,fin⟩:=it;refine⟨λ i m σ H=> ∃o,m=items.length-i/\i<=items.length/\Sl c o (Sx++S) σ (Tx++T) H/\forM gt body fin (items.drop i) o=some (fl,aa),⟨_,ab,rfl,Nat.zero_le _,s1,e⟩,?_⟩;rintro i m σ H ⟨o,rfl,hi,s,em⟩;by_cases I:i<items.length;. rw[List.drop_eq_getElem_cons I]at em;unfold forM at em;cases ea:items[i] o with
  |none=>rw[ea]at em;cases em
  |some d=>rw[ea]at em;obtain⟨u,ae,e2,em⟩:=bind_some em;obtain⟨af,U,e3,em⟩:=bind_some em;obtain⟨go,ai⟩:=(hJ c o S σ T H i s).1 items[i] d (List.getElem?_eq_getElem I) ea;refine .inr ⟨go,λ C H'=> ∃o,Sl c o (Sx++S) C (Tx++T) H'/\forM gt body fin (items.drop (i+1)) o=some (fl,aa),λ C H' ⟨aj,sj,ej⟩=>⟨items.length-(i+1),by omega,aj,rfl,I,sj,ej⟩,λ x H' y=>?_⟩;refine⟨c,o,Sx++S,Tx++T,d,ae,ai x H' y,e2,λ ao H2 _ s2=>⟨c,ae,Sx++S,Tx++T,af,U,s2,e3,?_⟩⟩;cases af with
   |nx=>exact λ C H' s'=>⟨U,s',em⟩
   |ct=>exact λ C H' s'=>⟨U,s',em⟩
   |bk=>obtain⟨rfl,rfl⟩:=aZ em;exact λ C H' s'=>k _ _ (s'.drop l)
   |rt d'=>obtain⟨rfl,rfl⟩:=aZ em;exact λ v C H' s'=>k v C H' (s'.stk (.cons s'.st.head (s'.st.tail.right l)))
   |rf xs=>obtain⟨rfl,rfl⟩:=aZ em;exact λ q vs C H' h1 h2 h3 h4 h5=>k q vs C H' h1 (h2.stk ((h2.st.left h1).append ((h2.st.right h1).right l))) h3 h4 h5
 .have ei:i=items.length:=by omega
  subst ei;rw[List.drop_length]at em;unfold forM at em;by_cases hf:fin o=true;. rw[if_pos hf]at em;cases em;exact .inl ⟨(hJ c _ S σ T H _ s).2 rfl hf,k _ _ (s.drop l)⟩
  simp_all
noncomputable def Qs(J:It)(its:md)(C:List D)(I:List V)(σ:St):Prop:= ∀(c:Ct)(o:DS)(S:List D)(T:List V)(H:Hp)(i:Nat),Sl c o (C++S) σ (I++T) H->
 (∀act d,its.1[i]?=some act->act o=some d->J.go i H/\ ∀x H',J.yld i H x H'->Sl c o (d::(C++S)) σ (x::(I++T)) H')/\(i=its.1.length->its.2 o=true->J.stop i H)
inductive PH (f:M md) (σ:St) (H:Hp) (R:It->Hp->Prop):Prop
 | mk (c:Ct) (δ:DS) (S:List D) (T:List V) (it:md) (δ':DS) (s:Sl c δ S σ T H) (e:f δ=some (it,δ')) (q:∀ J Sx Tx H',Tx.length=Sx.length->Qs J it Sx Tx σ->Sl c δ' (Sx ++ S) σ (Tx ++ T) H' -> R J H'):PH f σ H R
noncomputable abbrev DC(X:Cx)(tg iter:Expr)(f:M md):Prop:=PI X tg iter (PH f)
theorem cJ(h:DI X tg iter fi):DC X tg iter fi:=vH h λ σ H R ⟨c,o,S,T,it,C,s,e,k⟩=>⟨c,o,S,T,it,C,s,e,λ J I U H' l hJ s'=>k J I U H' l (λ c o S T H i=>hJ c o S σ T H i) s'⟩
theorem K6(i:Nat){x:Str}{pos:Pos}(hN:X.N[i]?=some x:=by rfl)(hv:u5 X.env.scope x:=by first|exact Or.inl rfl|exact Or.inr (Or.inl rfl)|exact Or.inr (Or.inr rfl))(hd:(x==("__debug__":Str))=false:=by decide)
  (aa:(x==("__classdict__":Str))=false:=by decide):DC X tg (.Name x pos) (do let xs<- bO i;pure (dE i xs.length)):=vH (Hl (dP hN hv hd aa)) λ σ H R ⟨c,δ,S,T,it,ab,s,e,k⟩=>by
 obtain⟨xs,ae,e1,e⟩:=bind_some e;obtain⟨rfl,rfl⟩:=aZ e;obtain⟨⟨b,hi⟩,rfl⟩:=cy e1;obtain⟨a,vs,ea,hH,hv,_⟩:=s.ow i b xs hi;refine⟨_,ea,a,rfl,⟨vs,.of hH⟩,k _ [] [] H rfl ?_ s⟩;intro c δ S T H j s;refine⟨λ act d J hd=>?_,λ ej hf=>?_⟩
 .unfold dE at J;rw[List.getElem?_map]at J;have hj:j<xs.length:=by
   by_cases hj:j<xs.length;. exact hj
   .rw[List.getElem?_eq_none (by simp;omega)]at J;cases J
  rw[List.getElem?_range hj]at J;cases J;dsimp only at hd;split at hd
  .rename_i b' ys hy;split at hd
   .obtain⟨a',ws,o,C,I,_⟩:=s.ow i b' ys hy;rw[ea]at o;cases o;obtain⟨v,U,r⟩:=I.get hd;refine⟨⟨ws,v,.of C,U⟩,λ x H' y=>?_⟩;obtain⟨rfl,y⟩:=y;have:=y ws (.of C);rw[U]at this;cases this;exact s.stk (.cons r s.st)
   .cases hd
  simp_all
 .unfold dE at hf ej;dsimp only at hf;split at hf;. rename_i b' ys hy;obtain⟨a',ws,o,C,I,_⟩:=s.ow i b' ys hy;rw[ea]at o;cases o;have hl:ys.length=xs.length:=of_decide_eq_true hf;refine⟨ws,.of C,?_⟩;rw[I.length,ej];simp;omega
  .cases hf
noncomputable def bF(gt:D->M Unit)(tt:M Bool)(te:M D)(d:D):M (Option D):=do
 gt d
 let b<- tt
 if b=true then do
  let x<- te
  pure (some x)
 else pure none
noncomputable def eO(own:Nat)(turn:D->M (Option D))(fin:DS->Bool):List (DS->Option D)->M (List D)
 |[]=> λ C=>if fin C=true then some ([],C)else none
 |a::r=> λ C=>match a C with
  |none=>none
  |some d=>match turn d (C++List.replicate own .un)with
   |none=>none
   |some (o,I)=>match eO own turn fin r (I.take C.length)with
    |none=>none
    |some (xs,J)=>some (o.toList++xs,J)
noncomputable def j6(n:Nat):M Unit:= λ o=>if o.length=n then some ((),o)else none
noncomputable def bB(lo own:Nat)(fi:M md)(turn:D->M (Option D)):M (List D):=do
 j6 lo
 let it<- fi
 let _<- lift (few it.1.length)
 eO own turn it.2 it.1
theorem oD: ∀σ H Q,LZ (bB lo own fi (bF gt tt te)) σ H Q->x5 (PH fi) own (Pw lo gt) (Eb tt) (tM te) σ H Q:= λ σ H Q ⟨c,ah,S,T,xs,au,s0,e,k⟩=>by
 obtain⟨u,av,e0,e⟩:=bind_some e;have ae:σ.length=lo/\ah=av:=by
  unfold j6 at e0;split at e0;. cases e0;exact⟨by rw[<- s0.len];assumption,rfl⟩
  .cases e0
 obtain⟨ae,rfl⟩:=ae;obtain⟨it,ai,e1,e⟩:=bind_some e;obtain⟨u',aw,e2,e⟩:=bind_some e;obtain⟨e3,rfl⟩:=bc e2;have aj:=(ki e3).2;refine⟨c,ah,S,T,it,ai,s0,e1,λ J Sx Tx H1 l hJ s1 q hq=>?_⟩;obtain⟨items,fin⟩:=it;dsimp only at e aj;obtain⟨f1,f2,f3⟩:=s1.fresh hq;refine⟨λ i m acc H=> ∃I C af,m=items.length-i/\i<=items.length/\acc.length=C.length/\acc.length<=i/\Sl { c with Z:=upd c.Z q (.lst acc) } I (C++(Sx++S)) σ (acc++(Tx++T)) H/\
  eO own (bF gt tt te) fin (items.drop i) I=some (af,au)/\C++af=xs,⟨_,ai,[],xs,rfl,Nat.zero_le _,rfl,Nat.le_refl _,s1.hide hq,e,rfl⟩,?_⟩;rintro i m acc H ⟨I,C,af,rfl,hi,la,li,s,em,ex⟩;have ak:H q=some (.lst acc):=s.zz q _ bz;refine⟨ak,?_⟩;have sr:=s.rot la l;by_cases aa:i<items.length;. rw[List.drop_eq_getElem_cons aa]at em;unfold eO at em;cases ea:items[i] I with
  |none=>rw[ea]at em;cases em
  |some d=>rw[ea]at em;dsimp only at em;cases U:bF gt tt te d (I++List.replicate own .un)with
   |none=>rw[U]at em;cases em
   |some p=>obtain⟨o,ax⟩:=p;rw[U]at em;dsimp only at em;cases ec:eO own (bF gt tt te) fin (items.drop (i+1)) (ax.take I.length)with
    |none=>rw[ec]at em;cases em
    |some p=>
     obtain⟨ao,aw⟩:=p;rw[ec]at em;cases em;obtain⟨u1,aq,ay,U⟩:=bind_some U;obtain⟨b,ag,az,U⟩:=bind_some U;obtain⟨go,aA⟩:=(hJ { c with Z:=upd c.Z q (.lst acc) } I (C++S) (acc++T) H i sr).1 items[i] d (List.getElem?_eq_getElem aa) ea;refine .inr ⟨go,λ x H' y=>?_⟩;refine⟨{ c with Z:=upd c.Z q (.lst acc) },I++List.replicate own .un,Sx++(C++S),Tx++(acc++T),d,aq,(aA x H' y).ext own,ay,λ aB H2 hn s2=>?_⟩;have ht:aB.take σ.length=σ:=by rw[hn _ (Nat.le_of_eq ae)];exact List.take_left' rfl
     refine⟨ht,{ c with Z:=upd c.Z q (.lst acc) },aq,Sx++(C++S),Tx++(acc++T),b,ag,s2,az,λ H3 s3=>?_⟩;have ab:I.length=σ.length:=s.len;cases b with
     |true=>obtain⟨y1,ar,ey,U⟩:=bind_some U;obtain⟨rfl,rfl⟩:=aZ U;refine⟨{ c with Z:=upd c.Z q (.lst acc) },ag,Sx++(C++S),Tx++(acc++T),y1,ar,s3,ey,λ v H4 s4=>?_⟩;refine⟨s4.zz q _ bz,by omega,items.length-(i+1),by omega,ar.take I.length,C++[y1],ao,rfl,aa,by simp[la],by simp;omega,?_,ec,by rw[<- ex];simp⟩;have s5:=s4.cut σ.length;rw[ht,<- ab]at s5;have s6:=Sl.hideSet (.lst (acc++[v])) s5 f2 f3;refine s6.stk ?_;have h1:=s6.st.head;have h2:=s6.st.tail.left l;have h3:=s6.st.tail.right l;have h4:=h3.left la;have h5:=h3.right la;exact(h4.append (.cons h1 .nil)).append (h2.append h5)
     |false=>obtain⟨rfl,rfl⟩:=aZ U;refine⟨items.length-(i+1),by omega,ag.take I.length,C,ao,rfl,aa,la,by omega,?_,ec,ex⟩;have s5:=s3.cut σ.length;rw[ht,<- ab]at s5;exact s5.rot l la
 .have ei:i=items.length:=by omega
  subst ei;rw[List.drop_length]at em;unfold eO at em;by_cases hf:fin I=true;. rw[if_pos hf]at em;cases em;rw[List.append_nil]at ex;subst ex;refine .inl ⟨(hJ { c with Z:=upd c.Z q (.lst acc) } _ (C++S) (acc++T) H _ sr).2 rfl hf,k q acc H la ?_ f1 f2 f3⟩;exact s.stk ((s.st.left la).append ((s.st.right la).right l))
  .rw[if_neg hf]at em;cases em
theorem cu:D3 X [] (Eb (pure true)):= λ pins s σ H Q I ⟨c,C,S,T,b,o,sl,e,k⟩=>by obtain⟨rfl,rfl⟩:=aZ e;exact GF pins s σ H Q I (k H sl)
theorem eJ(h:DT X t tt):D3 X [t] (Eb tt):=EL h
variable {N' own:List Str} {scope:Scope} {ifs:List Expr} {lo:Nat}
theorem b_(o:DC X tg iter fi)(C: ∀s H fp pins,DG (blk X N' own scope s H fp pins) lo tg gt)(I: ∀s H fp pins,D3 (blk X N' own scope s H fp pins) ifs (Eb tt))(he: ∀s H fp pins,DE (blk X N' own scope s H fp pins) elt te)
  (J:iC N' own X.env.scope scope=true:=by rfl)(U:i0 X.N N' scope=true:=by rfl)(hk:scope.kind= .function:=by rfl)(hc:X.calm=true:=by rfl)(hs: ∀x,foldedSetIterable iter X.env x=pure x:=by intro _;rfl):
  DF X (.ListComp elt [⟨tg,iter,ifs,0⟩] scope pos) (bB lo own.length fi (bF gt tt te)):=dj (F7 o C I he J U hk hc hs) oD
theorem FW(i:Nat){x:Str}{o C:Pos}(U:X.N.Nodup)(hi:DC X tg iter fi)(hg: ∀s H fp pins,DG (blk X N' own scope s H fp pins) lo tg gt)(ht: ∀s H fp pins,D3 (blk X N' own scope s H fp pins) ifs (Eb tt))(he: ∀s H fp pins,DE (blk X N' own scope s H fp pins) elt te)
  (I:X.N[i]?=some x:=by rfl)(hx:X.env.scope.names.lookup x=some .local:=by rfl)
  (J:swapsWith (.ListComp elt [⟨tg,iter,ifs,0⟩] scope pos) (some (.Name x o)) C.line X.env=pure true:=by rfl)
  (hS:iC N' own X.env.scope scope=true:=by rfl)(hM:i0 X.N N' scope=true:=by rfl)(hk:scope.kind= .function:=by rfl)(hc:X.calm=true:=by rfl)(hs: ∀x,foldedSetIterable iter X.env x=pure x:=by intro _;rfl):
  qe X (.Assign [.Name x o] (.ListComp elt [⟨tg,iter,ifs,0⟩] scope pos) C) (wx i (bB lo own.length fi (bF gt tt te))):=
 jW (yv U I hx hi hg ht he J hS hM hk hc hs) (MI oD)
theorem Qo{te:TE}{f:M (List D)}(w: ∀σ H Q,LZ f σ H Q->te σ H Q): ∀σ H Q,tM (do let xs<- f;pure (.lst xs)) σ H Q->te σ H Q:= λ σ H Q ⟨c,C,S,T,d,I,s,e,k⟩=>by obtain⟨xs,o,J,U⟩:=bind_some e;obtain⟨rfl,rfl⟩:=aZ U;exact w _ _ _ ⟨c,C,S,T,xs,o,s,J,λ l vs H' hl s' hz _ _=>k _ _ (s'.unhideL hl hz)⟩
theorem iV(i:Nat){x:Str}{o C:Pos}(U:X.N.Nodup)(hi:DC X tg iter fi)(hg: ∀s H fp pins,DG (blk X N' own scope s H fp pins) lo tg gt)(ht: ∀s H fp pins,D3 (blk X N' own scope s H fp pins) ifs (Eb tt))(he: ∀s H fp pins,DE (blk X N' own scope s H fp pins) elt te)
  (I:X.N[i]?=some x:=by rfl)(hx:X.env.scope.names.lookup x=some .local:=by rfl)
  (J:swapsWith (.ListComp elt [⟨tg,iter,ifs,0⟩] scope pos) (some (.Name x o)) C.line X.env=pure true:=by rfl)
  (hS:iC N' own X.env.scope scope=true:=by rfl)(hM:i0 X.N N' scope=true:=by rfl)(hk:scope.kind= .function:=by rfl)(hc:X.calm=true:=by rfl)(hs: ∀x,foldedSetIterable iter X.env x=pure x:=by intro _;rfl):
  qe X (.Assign [.Name x o] (.ListComp elt [⟨tg,iter,ifs,0⟩] scope pos) C) (eB i (do let xs<- bB lo own.length fi (bF gt tt te);pure (.lst xs))):=
 jW (yv U I hx hi hg ht he J hS hM hk hc hs) (Nc (Qo oD))
end
noncomputable def hz(Z H:Hp):Hp:=Ep (λ a=> ∃o,Z a=some o) H
noncomputable def iW(n:Nat)(mf:List D->Option D):Sp:= λ vs H Q _=>vs.length=n/\ ∃(Z:Hp) (ds:List D) (d:D),Kj Z H/\Rs (hz Z H) ds vs/\mf ds=some d/\ ∀v H',jO H H'->R (hz Z H') d v->Q v H'
noncomputable def L7(n:Nat)(mf:List D->Option (List D)):Sp:= λ vs H Q _=>vs.length=n/\ ∃(Z:Hp) (ds:List D) (xs:List D),Kj Z H/\Rs (hz Z H) ds vs/\mf ds=some xs/\
 ∀l ws H',jO H H'->H l=none->H' l=some (.lst ws)->Rs (hz (upd Z l (.lst ws)) H') xs ws->Q (.ref l) H'
noncomputable def CY(n:Nat)(mf:List D->List D->Option (D×List D)):Sp:= λ vs H Q _=>vs.length=n/\ ∃(Z:Hp) (a:Addr) (ws:List V) (xs:List D) (us:List V) (ds:List D) (d:D) (I:List D),vs= .ref a::us/\Kj Z H/\Z a=none/\H a=some (.lst ws)/\
 Rs (hz (upd Z a (.lst ws)) H) xs ws/\Rs (hz (upd Z a (.lst ws)) H) ds us/\mf xs ds=some (d,I)/\
 ∀v C H',(∀b o,b≠a->H b=some o->H' b=some o)->H' a=some (.lst C)->Rs (hz (upd Z a (.lst C)) H') I C->R (hz (upd Z a (.lst C)) H') d v->Q v H'
section
variable {c:Ct} {δ:DS} {S:List D} {σ:St} {T:List V} {H:Hp}
open Classical in
noncomputable def D6(c:Ct)(δ:DS)(σ:St)(H:Hp):Hp:= λ a=>if Hd c δ σ a then H a else none
theorem gn(s:Sl c δ S σ T H)(a:Addr):(∃o,D6 c δ σ H a=some o)↔Hd c δ σ a:=by
 unfold D6;by_cases h:Hd c δ σ a;. rw[if_pos h];exact Iff.intro (λ _=>h) λ _=>s.hdSome h
 grind
theorem r8(s:Sl c δ S σ T H):Kj (D6 c δ σ H) H:= λ a o h=>by
 unfold D6 at h;split at h
 .rename_i hd;refine⟨h,λ xs e=>?_⟩;subst e;rcases hd with⟨o,z⟩|⟨i,U,ys,C,I⟩
  .obtain⟨C,I⟩:=s.zk a o z;rw[h]at C;cases C;exact I xs rfl
  .obtain⟨a',ws,e,J,_⟩:=s.ow i U ys C;rw[I]at e;cases e;rw[h]at J;cases J
 grind
end
section
variable {X:Cx} {a b e:Expr} {fs:M (List D)} {pos p:Pos} {es:List Expr} {x:Str} {k:Nat} {f:Addr} {fd:FuncData} {ps:List Str}
theorem FP{n:Nat}(F:eD X.prog X.w X.K X.mg X.base dF k f fd ps (iW n mf))(hr:cX k X.A)(hm:X.mg x=some (.ref f))(hk:PySem.W.keepIn X.K (.ref f)=true)(hb:Binds X.K fd ps [])(ha:DA X (a::es) fs)
  (hg:Gl X x:=by rfl)(I:(x==("__debug__":Str))=false:=by decide)(he:starEach (a::es) X.env=(false,eval a X.env)::starEach es X.env:=by rfl)(J:(backTo pos (starEach es X.env)).any (·.1)=false:=by rfl):
  DE X (.Call (.Name x p) (a::es) [] pos) (mC (λ ds=>if ds.length=n then mf ds else none) fs):=dj (rL F hr hg hm hk hb .nil Bc ha I he J) λ σ H Q ⟨c,δ,S,T,d,aa,s,e,k⟩=>by
 obtain⟨ds,C,e1,e⟩:=bind_some e;obtain⟨U,rfl⟩:=bc e;refine⟨c,δ,S,T,ds,C,s,e1,λ vs H1 l s1=>?_⟩;dsimp only at U|-;split at U;. rename_i hn;rw[List.append_nil];refine⟨l.trans hn,D6 c C σ H1,ds,d,r8 s1,(s1.st.left l).mono (bP (λ a o _ z=>(gn s1 a).mp z) λ _ _ _ h=>h),U,λ v H' g r=>k v H' ?_⟩;have s2:=s1.grow g;exact s2.stk (.cons (r.mono (bP (λ a o _ z=>(gn s1 a).mpr z) λ _ _ _ h=>h)) (s2.st.right l))
 grind
theorem GW{n:Nat}(F:eD X.prog X.w X.K X.mg X.base dF k f fd ps (L7 n mf))(hr:cX k X.A)(hm:X.mg x=some (.ref f))(hk:PySem.W.keepIn X.K (.ref f)=true)(J:Binds X.K fd ps [])(ha:DA X (a::es) fs)
  (hg:Gl X x:=by rfl)(U:(x==("__debug__":Str))=false:=by decide)(he:starEach (a::es) X.env=(false,eval a X.env)::starEach es X.env:=by rfl)(aa:(backTo pos (starEach es X.env)).any (·.1)=false:=by rfl):
  DF X (.Call (.Name x p) (a::es) [] pos) (mC (λ ds=>if ds.length=n then mf ds else none) fs):=dj (rL F hr hg hm hk J .nil Bc ha U he aa) λ σ H Q ⟨c,δ,S,T,d,ae,s,e,k⟩=>by
 obtain⟨ds,C,e1,e⟩:=bind_some e;obtain⟨e2,rfl⟩:=bc e;refine⟨c,δ,S,T,ds,C,s,e1,λ vs H1 l s1=>?_⟩;dsimp only at e2|-;split at e2
 .rename_i hn;rw[List.append_nil];refine⟨l.trans hn,D6 c C σ H1,ds,d,r8 s1,(s1.st.left l).mono (bP (λ a o _ z=>(gn s1 a).mp z) λ _ _ _ h=>h),e2,λ q ws H' g hq ab r=>?_⟩;obtain⟨f1,f2,f3⟩:=s1.fresh hq
  have s2:Sl { c with Z:=upd c.Z q (.lst ws) } C S σ T H':=by
   have h0:=(s1.drop l).hide (o:= .lst ws) hq;refine h0.grow λ b o J=>?_;by_cases eb:b=q;. subst eb;rw[bz]at J;cases J;exact ab
   .rw[bj eb]at J;exact g b o J
  refine k q ws H' r.length (s2.stk ((r.mono (bP (λ a o ha z=>?_) λ _ _ _ h=>h)).append s2.st)) f1 f2 f3;rcases z with⟨w,z⟩|z
  .have z':upd c.Z q (.lst ws) a=some w:=z;by_cases I:a=q;. subst I;exact⟨_,bz⟩
   .rw[bj I]at z';obtain⟨o',h'⟩:=(gn s1 a).mpr (.inl ⟨w,z'⟩);exact⟨o',by rw[bj I];exact h'⟩
  .have I:a≠q:= λ I=>s1.hdNew hq (.inr (by rw[<- I];exact z));obtain⟨o',h'⟩:=(gn s1 a).mpr (.inr z);exact⟨o',by rw[bj I];exact h'⟩
 grind
noncomputable def dg(i n:Nat)(mf:List D->List D->Option (D×List D))(fs:M (List D)):M D:= λ δ=>match fs δ with
 |none=>none
 |some (ds,o)=>match o[i]? with
  |some (.ow b xs)=>if ds.length+1=n then(match mf xs ds with
   |none=>none
   |some (d,C)=>some (d,o.set i (.ow b C)))else none
  |_=>none
theorem yZ(i:Nat){mf:List D->List D->Option (D×List D)}{n:Nat}{y:Str}{py:Pos}(F:eD X.prog X.w X.K X.mg X.base dF k f fd ps (CY n mf))(hr:cX k X.A)(hm:X.mg x=some (.ref f))(hk:PySem.W.keepIn X.K (.ref f)=true)(hb:Binds X.K fd ps [])(ha:DA X es fs)
  (hN:X.N[i]?=some y:=by rfl)(hv:u5 X.env.scope y:=by first|exact Or.inl rfl|exact Or.inr (Or.inl rfl)|exact Or.inr (Or.inr rfl))(hd:(y==("__debug__":Str))=false:=by decide)(aa:(y==("__classdict__":Str))=false:=by decide)
  (hg:Gl X x:=by rfl)(ab:(x==("__debug__":Str))=false:=by decide)(he:starEach (.Name y py::es) X.env=(false,eval (.Name y py) X.env)::starEach es X.env:=by rfl)(ae:(backTo pos (starEach es X.env)).any (·.1)=false:=by rfl):
  DE X (.Call (.Name x p) (.Name y py::es) [] pos) (do let _<- bO i;dg i n mf fs):=dj (rL F hr hg hm hk hb .nil Bc (bu (dP hN hv hd aa) ha he) ab he ae) λ σ H Q ⟨c,δ,S,T,d,ak,s,e,k⟩=>by obtain⟨af,ao,e0,e⟩:=bind_some e;obtain⟨⟨b0,ag⟩,rfl⟩:=cy e0;obtain⟨a,aq,ea,_⟩:=s.ow i b0 af ag;unfold dg at e;cases e1:fs δ with
 |none=>rw[e1]at e;cases e
 |some q=>
  obtain⟨ds,C⟩:=q;rw[e1]at e;dsimp only at e;split at e
  .rename_i b xs hi;split at e;. cases e2:mf xs ds with
    |none=>rw[e2]at e;cases e
    |some q=>
     obtain⟨d',ah⟩:=q;rw[e2]at e;cases e;refine⟨_,ea,c,δ,S,T,ds,C,s,e1,λ vs H1 l s1=>?_⟩;dsimp only;rw[List.append_nil];obtain⟨a',ws,J,hH,ai,hB,ar,hZ⟩:=s1.ow i b xs hi;rw[ea]at J;cases J;have aj:Hd c C σ a:= .inr ⟨i,b,xs,hi,ea⟩;have zi: ∀(o:HO)(y:Addr),(∃u,upd (λ z=>if z=a then none else D6 c C σ H1 z) a o y=some u)↔Hd c C σ y:= λ o y=>by
      by_cases I:y=a;. subst I;rw[bz];exact Iff.intro (λ _=>aj) λ _=>⟨o,rfl⟩
      .rw[bj I,if_neg I];exact gn s1 y
     refine⟨by simp;omega,λ z=>if z=a then none else D6 c C σ H1 z,a,ws,xs,vs,ds,d,ah,rfl,λ b o h=>?_,if_pos rfl,hH,ai.mono (bP (λ y o _ z=>(zi _ y).mp z) λ _ _ _ h=>h),
      (s1.st.left l).mono (bP (λ y o _ z=>(zi _ y).mp z) λ _ _ _ h=>h),e2,λ v U H' g ga r1 r2=>k v H' ?_⟩
     .dsimp only at h;split at h;. cases h
      .exact r8 s1 _ _ h
     .have gr:jO H1 (upd H' a (.lst ws)):= λ y o hy=>by
       by_cases I:y=a;. subst I;rw[hH]at hy;cases hy;exact bz
       .rw[bj I];exact g y o I hy
      have s2:=(s1.drop l).grow gr;have m2: ∀y o,hz (upd (λ z=>if z=a then none else D6 c C σ H1 z) a (.lst U)) H' y=some o->gC c C σ (upd H' a (.lst ws)) y=some o:=
       bP (λ y o _ z=>(zi _ y).mpr z) λ y o hy h=>by have:y ≠ a:=λ I=>hy (by rw [I];exact ⟨_,bz⟩);rw [bj this];exact h
      have s3:=(s2.stk (.cons (r2.mono m2) s2.st)).mut hi ea (r1.mono m2);have eH:upd (upd H' a (.lst ws)) a (.lst U)=H':= by
       rw [Eg];funext y;by_cases I:y=a;. subst I;rw [bz,ga]
       .rw [bj I]
      rw [eH] at s3;exact s3
   grind
  grind
end
noncomputable def entry(N:List Str)(ds:List D):DS:=ds.map .pu++List.replicate (N.length-ds.length) .un
noncomputable def bg(N:List Str)(body:M Fl)(ds:List D):Option D:=match body (entry N ds)with
 |some (.rt d,_)=>some d
 |some (.nx,_)=>some .non
 |_=>none
noncomputable def jU(N:List Str)(body:M Fl)(ds:List D):Option (List D):=match body (entry N ds)with
 |some (.rf xs,_)=>some xs
 |_=>none
noncomputable def fP(N:List Str)(xs ds:List D):DS:= .ow true xs::(ds.map .pu++List.replicate (N.length-(ds.length+1)) .un)
noncomputable def cz(N:List Str)(body:M Fl)(xs ds:List D):Option (D×List D):=match body (fP N xs ds)with
 |some (.rt d,δ)=>(match(show DS from δ)[0]? with
  |some (Slot.ow true o)=>some (d,o)
  |_=>none)
 |_=>none
theorem fm{ds:List D}{n:Nat}{i:Nat}{x:Slot}(h:(ds.map Slot.pu++List.replicate n .un)[i]?=some x):(∃d,x= .pu d/\ds[i]?=some d)\/x= .un:=by grind
theorem ny{ds:List D}{vs:List V}(J:Kj Z H)(r:Rs (hz Z H) ds vs)(hl:vs.length<=N.length):Sl ⟨Z,[],H⟩ (entry N ds) [] (L2.start N vs) [] H:=by
 have C: ∀a,¬vi (entry N ds) (L2.start N vs) a:= λ a ⟨i,b,xs,U,_⟩=>by rcases fm U with⟨d,e,_⟩|e <;> cases e
 have m: ∀b o,hz Z H b=some o->gC ⟨Z,[],H⟩ (entry N ds) (L2.start N vs) H b=some o:=bP (λ a o _ z=>z.elim (λ z=>z) λ z=>absurd z (C a)) λ _ _ _ h=>h;refine⟨?_,λ i d h=>?_,λ i b xs h=>?_,λ i j b b' xs ys a h=>?_,.nil,λ b o _ h=>h,λ b hb=>(nomatch hb),J⟩;. have:=r.length;simp[entry,L2.start];omega
 .rcases fm h with⟨d',e,hd⟩|e
  .cases e;obtain⟨v,I,rv⟩:=r.get hd;refine⟨v,?_,rv.mono m⟩;have hi:i<vs.length:=(List.getElem?_eq_some_iff.mp I).1;unfold L2.start;rw[List.getElem?_append_left (by simpa using hi),List.getElem?_map,I];rfl
  grind
 .rcases fm h with⟨d',e,hd⟩|e <;> cases e
 .rcases fm h with⟨d',e,hd⟩|e <;> cases e
section
variable {P:Program} {w:World} {K:PySem.W.Frag} {mg:Str->Option Value} {base:Heap} {x qual:Str} {st:Stmt} {f:Addr} {fd:FuncData} {N ps:List Str} {k:Nat} {body:M Fl}
theorem Qe(F:zZ K x qual st f fd)(S:bf N ps (aW st))(J: ∀(cdv:Value)(A:Around)(outer:List Env)(s:Shared)(H:Hp)(E:XK),cX k (A.deeper (PyProof.Rows.envOfC qual (aW st) s.heap.objs.size f cdv))->vf (ir dF P w K mg base N qual (aW st) f cdv A outer s H E).nox (cq st) body):
  eD P w K mg base dF (k+1) f fd ps (iW ps.length (bg N body)):=by
 refine F.ok S (λ vs H Q E h=>h.1) (λ cdv A outer s H vs Q E hr h=>⟨_,J cdv A outer s H E hr,?_⟩);obtain⟨hl,Z,ds,d,hZ,r,e,q⟩:=h;have U:ps.length<=N.length:=by have:=congrArg List.length S.pre;rw[List.length_take]at this;omega
 have s0:=ny (N:=N) hZ r (by rw[hl];exact U);have fin: ∀{C:DS}{I:St}{v:V}{H':Hp},Sl ⟨Z,[],H⟩ C [d] I [v] H'->Q v H':= λ{C I v H'} s'=>
  q v H' (λ b o J=>s'.keep b o (by simp) J) (s'.st.head.mono (bP (λ a o _ z=> .inl z) λ _ _ _ h=>h));unfold bg at e;split at e;. rename_i d' C eb;cases e;exact⟨_,_,_,_,_,_,s0,eb,λ v I H' s'=>fin s'⟩
 .rename_i C eb;cases e;exact⟨_,_,_,_,_,_,s0,eb,λ I H' s'=>fin (v:= .non) (s'.stk (.cons .mkN .nil))⟩
 grind
theorem Qz(F:zZ K x qual st f fd)(S:bf N ps (aW st))(C: ∀(cdv:Value)(A:Around)(outer:List Env)(s:Shared)(H:Hp)(E:XK),cX k (A.deeper (PyProof.Rows.envOfC qual (aW st) s.heap.objs.size f cdv))->vf (ir dF P w K mg base N qual (aW st) f cdv A outer s H E).nox (cq st) body):
  eD P w K mg base dF (k+1) f fd ps (L7 ps.length (jU N body)):=by
 refine F.ok S (λ vs H Q E h=>h.1) (λ cdv A outer s H vs Q E U h=>⟨_,C cdv A outer s H E U,?_⟩);obtain⟨hl,Z,ds,d,hZ,r,e,q⟩:=h;have I:ps.length<=N.length:=by have:=congrArg List.length S.pre;rw[List.length_take]at this;omega
 have s0:=ny (N:=N) hZ r (by rw[hl];exact I);unfold jU at e;split at e;. rename_i d' aa eb;cases e;refine⟨_,_,_,_,_,_,s0,eb,λ l J ab H' h1 s' h3 h4 h5=>?_⟩;refine q l J H' (λ b o C=>s'.keep b o (by simp) C) h5 (s'.zz l _ bz) ?_;exact(s'.st.left h1).mono (bP (λ a o _ z=> .inl z) λ _ _ _ h=>h)
 grind
theorem Qk(F:zZ K x qual st f fd)(S:bf N ps (aW st))(I: ∀(cdv:Value)(A:Around)(outer:List Env)(s:Shared)(H:Hp)(E:XK),cX k (A.deeper (PyProof.Rows.envOfC qual (aW st) s.heap.objs.size f cdv))->vf (ir dF P w K mg base N qual (aW st) f cdv A outer s H E).nox (cq st) body):
  eD P w K mg base dF (k+1) f fd ps (CY ps.length (cz N body)):=by
 refine F.ok S (λ vs H Q E h=>h.1) (λ cdv A outer s H vs Q E hr h=>⟨_,I cdv A outer s H E hr,?_⟩);obtain⟨hl,Z,a,ws,xs,us,ds,d,ar,rfl,hZ,J,hH,ae,U,e,q⟩:=h;have aa:ps.length<=N.length:=by have:=congrArg List.length S.pre;rw[List.length_take]at this;omega
 have au:us.length+1<=N.length:=by rw[<- hl]at aa;simpa using aa
 have ld:=U.length;have af: ∀b,vi (fP N xs ds) (L2.start N (.ref a::us)) b->b=a:= λ b ⟨i,bb,ys,h1,h2⟩=>by cases i with
  |zero=>cases h2;rfl
  |succ i=>
   have ag:(ds.map Slot.pu++List.replicate (N.length-(ds.length+1)) .un)[i]?=some (.ow bb ys):=by simpa[fP]using h1
   rcases fm ag with⟨d,e,_⟩|e <;> cases e
 have m: ∀b o,hz (upd Z a (.lst ws)) H b=some o->gC ⟨Z,[a],H⟩ (fP N xs ds) (L2.start N (.ref a::us)) H b=some o:=bP (λ b o _ z=>by
  rcases z with⟨o',z⟩|z
  .have z':Z b=some o':=z;by_cases C:b=a;. rw[C,J]at z';cases z'
   .exact⟨o',by rw[bj C];exact z'⟩
  .rw[af b z];exact⟨_,bz⟩) λ _ _ _ h=>h;have s0:Sl ⟨Z,[a],H⟩ (fP N xs ds) [] (L2.start N (.ref a::us)) [] H:=by
  refine⟨?_,λ i d h=>?_,λ i b ys h=>?_,λ i j b b' ys zs y h h'=>?_,.nil,λ b o _ h=>h,λ b I=>?_,hZ⟩
  .simp only[fP,L2.start,List.length_append,List.length_map,List.length_replicate,List.length_cons];omega
  .cases i with
   |zero=>cases h
   |succ i=>
    have h':(ds.map Slot.pu++List.replicate (N.length-(ds.length+1)) .un)[i]?=some (.pu d):=by simpa[fP]using h
    rcases fm h' with⟨d',e,hd⟩|e
    .cases e;obtain⟨v,hv,rv⟩:=U.get hd;refine⟨v,?_,rv.mono m⟩;have hi:i<us.length:=(List.getElem?_eq_some_iff.mp hv).1;have:(L2.start N (.ref a::us))[i+1]?=some (some v):=by
      unfold L2.start;rw[List.getElem?_append_left (by simpa using hi),List.getElem?_map,List.getElem?_cons_succ,hv];rfl
     exact this
    .cases e
  .cases i with
   |zero=>
    cases h;exact⟨a,ws,rfl,hH,ae.mono m,(λ _=>List.mem_singleton.mpr rfl),(λ z=>absurd z (by simp)),J⟩
   |succ i=>
    have h':(ds.map Slot.pu++List.replicate (N.length-(ds.length+1)) .un)[i]?=some (.ow b ys):=by simpa[fP]using h
    rcases fm h' with⟨d',e,hd⟩|e <;> cases e
  .intro _ _;have z: ∀(i:Nat) b ys,(fP N xs ds)[i]?=some (.ow b ys)->i=0:= λ i b ys h=>by cases i with
    |zero=>rfl
    |succ i=>
     have h':(ds.map Slot.pu++List.replicate (N.length-(ds.length+1)) .un)[i]?=some (.ow b ys):=by simpa[fP]using h
     rcases fm h' with⟨d',e,hd⟩|e <;> cases e
   rw[z i b ys h,z j b' zs h']
  .rw[List.mem_singleton.mp I];exact⟨_,hH⟩
 unfold cz at e;split at e
 .rename_i d' ah C;split at e
  .rename_i ys hy;cases e;refine⟨_,_,_,_,_,_,s0,C,λ v ai H' s'=>?_⟩;obtain⟨a',ab,ea,aj,ak,ao,_,_⟩:=s'.ow 0 true _ hy;have aq:a'=a:=List.mem_singleton.mp (ao rfl);subst aq;have m': ∀b o,gC ⟨Z,[a'],H⟩ ah ai H' b=some o->hz (upd Z a' (.lst ab)) H' b=some o:=bP (λ b o _ z=> by
    obtain ⟨o',z⟩:=z;by_cases C:b=a';. subst C;exact .inr ⟨0,true,_,hy,ea⟩
    .rw [bj C] at z;exact .inl ⟨o',z⟩) λ _ _ _ h=>h;exact q v ab H' (λ b o I h=>s'.keep b o (λ z=>I (List.mem_singleton.mp z)) h) aj (ak.mono m') (s'.st.head.mono m')
  .cases e
 .cases e
end
section
variable {X:Cx} {a b e:Expr} {fa fb:M D} {fs:M (List D)} {pos p apos cpos:Pos} {es:List Expr} {x:Str}
theorem Sl.own (s:Sl c δ S σ T H) {i:Nat} {b:Bool} (hi:δ[i]? = some (.ow b xs)):∃ a vs,σ[i]? = some (some (.ref a))∧H a=some (.lst vs)∧Rs (gC c δ σ H) xs vs:= by
 obtain ⟨a,vs,h1,h2,h3,_⟩:=s.ow i b xs hi
 grind
noncomputable def setOw(i:Nat)(xs:List D):M Unit:= λ o=>match o[i]? with
 |some (.ow b _)=>some ((),o.set i (.ow b xs))
 |_=>none
theorem gS{u:Unit}(h:setOw i xs C=some (u,o)): ∃b ys,C[i]?=some (.ow b ys)/\o=C.set i (.ow b xs):=by unfold setOw at h;grind
noncomputable def gi(i:Nat)(fs:M (List D)):M Fl:=do
 let _<- bO i
 let ds<- fs
 match ds with
 |[d]=>do
  let xs<- bO i
  let _<- lift (few xs.length)
  setOw i (xs++[d])
  pure .nx
 |_=>lift none
theorem kN(i:Nat)(ha:DA X [a] fs)(hN:X.N[i]?=some x:=by rfl)(hv:u5 X.env.scope x:=by first | exact Or.inl rfl | exact Or.inr (Or.inl rfl) | exact Or.inr (Or.inr rfl))(hd:(x==("__debug__":Str))=false:=by decide)(aa:(x==("__classdict__":Str))=false:=by decide)
  (I:((backTo cpos (starEach [a] X.env)).all (λ x=> !x.1)&&(backToKw cpos (keywordEach [] X.env)).all (λ x=>x.1.isSome)
   &&decide (([a]:List Expr).length+([]:List Keyword).length+(if([]:List Keyword).isEmpty then 0 else 1)<30))=true:=by rfl)
  (o:(apos.endLine==cpos.line)=true:=by rfl)(hs:starEach [a] X.env=[(false,eval a X.env)]:=by rfl)(ab:swapsWith (.Call (.Attribute (.Name x p) "append" apos) [a] [] cpos) none pos.line X.env=pure false:=by rfl):
  qe X (.Expr (.Call (.Attribute (.Name x p) "append" apos) [a] [] cpos) pos) (gi i fs):=
 jW (yd (yw PySem.F.plainAttrs_list PySem.F.slot_list_append PySem.F.type_list_append qa (dP hN hv hd aa) ha rfl I o hs rfl) ab) λ E σ H ⟨c,δ,S,T,fl,ai,s,e,k⟩=>by
  obtain⟨aj,ak,e0,e⟩:=bind_some e;obtain⟨⟨b0,ae⟩,rfl⟩:=cy e0;obtain⟨q,af,eq,hq,_⟩:=s.own ae;obtain⟨ds,ag,e1,e⟩:=bind_some e;refine⟨_,eq,.inl ⟨rfl,af,.of hq⟩,c,δ,S,T,ds,ag,s,e1,λ vs H1 l s1=>?_⟩;split at e;. obtain⟨xs,ao,e2,e⟩:=bind_some e;obtain⟨⟨b1,C⟩,rfl⟩:=cy e2;obtain⟨_,aq,e3,e⟩:=bind_some e;obtain⟨e4,rfl⟩:=bc e3;obtain⟨_,ar,e5,e⟩:=bind_some e;obtain⟨rfl,rfl⟩:=aZ e;obtain⟨b2,ys,J,rfl⟩:=gS e5;rw[C]at J;cases J;obtain⟨q',ws,U,ah,hx⟩:=s1.own C;rw[eq]at U;cases U;obtain⟨v,rfl,r⟩:=tK (s1.st.left l);refine⟨q,ws,v,rfl,rfl,ah,by rw[hx.length];exact(ki e4).2,k _ _ ?_⟩;exact(s1.drop l).mut C eq (hx.append (.cons r .nil))
  .cases e
noncomputable def uY(i:Nat)(fs:M (List D)):M D:=do
 let _<- bO i
 let ds<- fs
 match ds with
 |[.int j]=>do
  let xs<- bO i
  let d<- lift (if 0<=j/\j<100000 then xs[j.toNat]? else none)
  setOw i (xs.eraseIdx j.toNat)
  pure d
 |_=>lift none
theorem Rs.erase: ∀{ds:List D}{vs:List V}(i:Nat),Rs H ds vs->Rs H (ds.eraseIdx i) (vs.eraseIdx i)
 |[],vs,i,h=>by rw[h.inv0];simpa using Rs.nil
 |d::ds,vs,0,h=>by obtain⟨v,r,e,_,o⟩:=h.inv;simp_all
 |d::ds,vs,i+1,h=>by obtain⟨v,r,e,C,o⟩:=h.inv;subst e;exact .cons C (Rs.erase i o)
theorem wB(i:Nat)(ha:DA X [a] fs)(hN:X.N[i]?=some x:=by rfl)(hv:u5 X.env.scope x:=by first|exact Or.inl rfl|exact Or.inr (Or.inl rfl)|exact Or.inr (Or.inr rfl))(hd:(x==("__debug__":Str))=false:=by decide)(aa:(x==("__classdict__":Str))=false:=by decide)
  (I:((backTo cpos (starEach [a] X.env)).all (λ x=> !x.1)&&(backToKw cpos (keywordEach [] X.env)).all (λ x=>x.1.isSome)
   &&decide (([a]:List Expr).length+([]:List Keyword).length+(if([]:List Keyword).isEmpty then 0 else 1)<30))=true:=by rfl)
  (o:(apos.endLine==cpos.line)=true:=by rfl)(hs:starEach [a] X.env=[(false,eval a X.env)]:=by rfl):
  DE X (.Call (.Attribute (.Name x p) "pop" apos) [a] [] cpos) (uY i fs):=
 dj (yw PySem.F.plainAttrs_list PySem.F.slot_list_pop PySem.F.type_list_pop Av (dP hN hv hd aa) ha rfl I o hs rfl) λ σ H Q ⟨c,δ,S,T,fl,ah,s,e,k⟩=>by
  obtain⟨ai,aj,e0,e⟩:=bind_some e;obtain⟨⟨b0,ab⟩,rfl⟩:=cy e0;obtain⟨q,ae,eq,hq,_⟩:=s.own ab;obtain⟨ds,af,e1,e⟩:=bind_some e;refine⟨_,eq,.inl ⟨rfl,ae,.of hq⟩,c,δ,S,T,ds,af,s,e1,λ vs H1 l s1=>?_⟩;split at e
  .rename_i j;obtain⟨xs,ak,e2,e⟩:=bind_some e;obtain⟨⟨b1,C⟩,rfl⟩:=cy e2;obtain⟨d,ao,e3,e⟩:=bind_some e;obtain⟨e4,rfl⟩:=bc e3;obtain⟨_,aq,e5,e⟩:=bind_some e;obtain⟨rfl,rfl⟩:=aZ e;obtain⟨b2,ys,J,rfl⟩:=gS e5;rw[C]at J;cases J;obtain⟨q',ws,U,ag,hx⟩:=s1.own C;rw[eq]at U;cases U;obtain⟨v,rfl,r⟩:=tK (s1.st.left l);cases r.int;split at e4
   .obtain⟨y,hy,ry⟩:=hx.get e4;have ar:j.toNat<ws.length:=(List.getElem?_eq_some_iff.mp hy).1;refine⟨q,ws,j,j.toNat,y,rfl,rfl,ag,by omega,by omega,?_,hy,k _ _ ?_⟩
    .unfold seqIndex?;have h1: ¬j<0:=by omega
     simp only[h1,if_false];rw[if_pos];simp;omega
    .have s2:=s1.drop l;exact(s2.stk (.cons ry s2.st)).mut C eq (hx.erase j.toNat)
   simp_all
  .cases e
noncomputable def rH(i:Nat)(fa:M D)(k:Int):M Fl:=do
 let d<- fa
 let xs<- bO i
 let j<- lift (zE xs.length k)
 setOw i (xs.set j d)
 pure .nx
theorem Rs.set(r:R H d v): ∀{ds:List D}{vs:List V}(i:Nat),Rs H ds vs->Rs H (ds.set i d) (vs.set i v)
 |[],vs,i,h=>by rw[h.inv0];rfl
 |d::ds,vs,0,h=>by obtain⟨v,q,e,_,o⟩:=h.inv;subst e;exact .cons r o
 |d::ds,vs,i+1,h=>by obtain⟨v,q,e,C,o⟩:=h.inv;subst e;exact .cons C (Rs.set r i o)
theorem Bl(i:Nat){k:Int}{j:Nat}{pc o:Pos}(he:DE X e fa)(hN:X.N[i]?=some x:=by rfl)(hv:u5 X.env.scope x:=by first | exact Or.inl rfl | exact Or.inr (Or.inl rfl) | exact Or.inr (Or.inr rfl))(hd:(x==("__debug__":Str))=false:=by decide)(U:(x==("__classdict__":Str))=false:=by decide)
  (ha: ∀v,assign (.Subscript (.Name x p) (.Constant (.int k) j pc) o) X.env v=(do
   let J<- holding [v] (eval (.Name x p) X.env)
   let iv<- holding [v,J] (eval (.Constant (.int k) j pc) X.env)
   standAt o
   holding [v,J,iv] (setItem J iv v)
   release [v,J,iv] []):=by intro _;rfl)
  (hs:swapsWithSole [.Subscript (.Name x p) (.Constant (.int k) j pc) o] e pos.line X.env=pure false:=by rfl)(hw:swappedStores [.Subscript (.Name x p) (.Constant (.int k) j pc) o] e X.env=pure none:=by rfl)
  (h1:(assignEach [.Subscript (.Name x p) (.Constant (.int k) j pc) o] X.env).map (·.2)=[assign (.Subscript (.Name x p) (.Constant (.int k) j pc) o) X.env]:=by rfl):
  qe X (.Assign [.Subscript (.Name x p) (.Constant (.int k) j pc) o] e pos) (rH i fa k):=
 jW (Bh he (Jd (dP hN hv hd U) v7 set_list ha) hs hw h1) λ E σ H ⟨c,δ,S,T,fl,ab,s,e,kk⟩=>by obtain⟨d,aa,e1,e⟩:=bind_some e;obtain⟨xs,ae,e2,e⟩:=bind_some e;obtain⟨⟨b1,C⟩,rfl⟩:=cy e2;obtain⟨jj,af,e3,e⟩:=bind_some e;obtain⟨e4,rfl⟩:=bc e3;obtain⟨_,ag,e5,e⟩:=bind_some e;obtain⟨rfl,rfl⟩:=aZ e;obtain⟨b2,ys,I,rfl⟩:=gS e5;rw[C]at I;cases I;refine⟨c,δ,S,T,d,aa,s,e1,λ v H1 s1=>?_⟩;obtain⟨q,ws,eq,hq,hx⟩:=s1.own C;refine⟨_,eq,q,ws,k,jj,rfl,rfl,hq,by rw[hx.length];omega,kk _ _ ?_⟩;exact s1.pop.mut C eq (hx.set s1.st.head jj)
noncomputable def yL(i:Nat)(fb:M D):M D:=do
 let _<- bO i
 let y<- fb
 let xs<- bO i
 lift (dq (.lst xs) y)
theorem BL(i:Nat){px:Pos}(hb:DE X b fb)(hN:X.N[i]?=some x:=by rfl)(hv:u5 X.env.scope x:=by first | exact Or.inl rfl | exact Or.inr (Or.inl rfl) | exact Or.inr (Or.inr rfl))(hd:(x==("__debug__":Str))=false:=by decide)(C:(x==("__classdict__":Str))=false:=by decide)
  (hs:l4 b:=by exact fun _ _=>rfl):DE X (.Subscript (.Name x px) b pos) (yL i fb):=dj (C6 x4 (dP hN hv hd C) hb hs) λ σ H Q ⟨c,δ,S,T,fl,ab,s,e,k⟩=>by obtain⟨ae,af,e0,e⟩:=bind_some e;obtain⟨⟨b0,I⟩,rfl⟩:=cy e0;obtain⟨q,ag,eq,hq,_⟩:=s.own I;obtain⟨y,J,e1,e⟩:=bind_some e;obtain⟨xs,ah,e2,e⟩:=bind_some e;obtain⟨⟨b1,U⟩,rfl⟩:=cy e2;obtain⟨e3,rfl⟩:=bc e;refine⟨_,eq,c,δ,S,T,y,J,s,e1,λ u H2 s2=>?_⟩;obtain⟨q',ws,o,aa,hx⟩:=s2.own U;rw[eq]at o;cases o;cases y with
 |int j=>have e':jL xs j=some fl:=e3;obtain⟨z,e4,r⟩:=vU hx e';exact⟨q,ws,j,z,rfl,s2.st.head.int,.of aa,e4,k _ _ (s2.stk (.cons r s2.st.tail))⟩
 |_=>cases e3
noncomputable def jx(i:Nat):M D:=do
 let xs<- bO i
 pure (.int xs.length)
theorem j8(i:Nat){px:Pos}(hm:X.mg "len"=none)(I:Gl X "len":=by rfl)(J:X.N[i]?=some x:=by rfl)(U:u5 X.env.scope x:=by first | exact Or.inl rfl | exact Or.inr (Or.inl rfl) | exact Or.inr (Or.inr rfl))(hd:(x==("__debug__":Str))=false:=by decide)(o:(x==("__classdict__":Str))=false:=by decide):
  DE X (.Call (.Name "len" p) [.Name x px] [] pos) (jx i):=dj (fo ko I hm PySem.boot_len (bu (dP J U hd o) da) (by decide) (by decide) rfl rfl) λ σ H Q ⟨c,δ,S,T,fl,aa,s,e,k⟩=>by obtain⟨xs,ab,e1,e⟩:=bind_some e;obtain⟨rfl,rfl⟩:=aZ e;obtain⟨⟨b1,C⟩,rfl⟩:=cy e1;obtain⟨q,ws,eq,hq,hx⟩:=s.own C;refine⟨_,eq,q,ws,rfl,.inl (.of hq),k _ _ (s.stk (.cons ?_ s.st))⟩;rw[hx.length];rfl
theorem cC(hm:X.mg "len"=none)(o:DA X [a] fs)(C:Gl X "len":=by rfl)(he:starEach [a] X.env=[(false,eval a X.env)]:=by rfl):DE X (.Call (.Name "len" p) [a] [] pos) (mC cj fs):=
 fv ko Kk C hm PySem.boot_len o (by decide) (by rfl) he rfl
theorem zQ: ∀{bs:List Bool}{its:List Value}{i:Nat}{v:Value},Vals (bs.map V.bl) its->its[i]?=some v-> ∃b,bs[i]?=some b/\v= .bool b:= λ{bs its i v} h e=>by
 have o:=h.length;rw[List.length_map]at o;have I:i<bs.length:=by rw[o];exact(List.getElem?_eq_some_iff.mp e).1
 obtain⟨u,C,r⟩:=h.get (i:=i) (x:=V.bl bs[i]) (by grind);rw[e]at C;cases C;exact⟨bs[i],List.getElem?_eq_getElem I,r⟩
theorem vL(bs:List Bool):((List.range bs.length).all λ i=>(bs[i]?).getD true)=bs.all id:=by
 rw[Bool.eq_iff_iff,List.all_eq_true,List.all_eq_true];constructor;. intro h b I;obtain⟨i,C,rfl⟩:=List.getElem_of_mem I;simpa[List.getElem?_eq_getElem C]using h i (List.mem_range.mpr C)
 .intro h i C;have o:=List.mem_range.mp C;simpa[List.getElem?_eq_getElem o]using h _ (List.getElem_mem o)
theorem Cv(hc:X.calm=true):du X (.builtin "all") (λ xs H Q=> ∃(p:Addr) (bs:List Bool),xs=[.ref p]/\jr X.K H p (bs.map V.bl)/\Q (.bl (bs.all id)) H):=by
 intro pins s σ H xs us Q I r h;obtain⟨p,bs,rfl,hq,q⟩:=h;obtain⟨u,rfl,rx⟩:=r.one;cases rx;obtain⟨its,J,pl,hz⟩:=I.list hq;have C:p<s.heap.objs.size:=by obtain⟨_,e,_⟩:=pl.isList;exact Heap.lt_size e
 refine call_all_walk (wpAny_pyIter_list pl.isList ?_);refine⟨s.heap.objs.size,[s.heap.objs.size,p],[s.heap.objs.size],its.toArray.size,_,_,λ i=>(bs[i]?).getD true,rfl,Walks.list (A:=X.A.in1) (I.ok.hd hc) _ p (Nat.ne_of_lt C) its.toArray,
  ⟨⟨_,Heap.get?_push_size _ rfl,rfl,rfl⟩,pl.isList.push _⟩,λ i v s' Q' E' hP U=>?_,λ h' tk hk=>?_⟩;. obtain⟨b,e,rfl⟩:=zQ J (by simpa using hP);simp[e]at U;exact wpAny_truthy_bool U
 .have e:((List.range its.toArray.size).all λ i=>(bs[i]?).getD true)=bs.all id:=by rw[List.size_toArray,<- J.length,List.length_map];exact vL bs
  rw[e];exact⟨.bl _,H,I.kept λ b o eb=>hk b o (λ hm=>absurd (Heap.lt_size eb) (by simp_all)) (Heap.get?_push_of_some _ eb),rfl,q⟩
noncomputable def boolsOf:List D->Option (List Bool)
 |[]=>some []
 | .bl b::r=>(boolsOf r).map (b:: .)
 |_=>none
theorem ud: ∀{ds:List D}{vs:List V}{bs:List Bool},Rs H ds vs->boolsOf ds=some bs->vs=bs.map V.bl
 |[],vs,bs,h,e=>by cases e;exact h.inv0
 |d::ds,vs,bs,h,e=>by obtain⟨v,r,ev,o,C⟩:=h.inv;cases d with
  |bl b=>unfold boolsOf at e;cases q:boolsOf ds with
   |none=>simp_all
   |some I=>rw[q]at e;cases e;rw[ev,o.bl,ud C q];rfl
  |_=>cases e
noncomputable def jn:List D->Option D
 |[.lst ds]=>(boolsOf ds).map λ bs=> .bl (bs.all id)
 |_=>none
theorem BC(g:List Bool->Bool)(f:List D->Option D)(hf: ∀ds d,f ds=some d-> ∃es bs,ds=[.lst es]/\boolsOf es=some bs/\d= .bl (g bs)):
  ig (λ xs H Q=> ∃(p:Addr) (bs:List Bool),xs=[.ref p]/\jr K H p (bs.map V.bl)/\Q (.bl (g bs)) H) f:= λ c U S σ T H ds vs d Q l s e k=>by obtain⟨es,bs,rfl,o,rfl⟩:=hf _ _ e;have h:=s.st.left l;have C:=s.st.right l;obtain⟨v,rfl,r⟩:=tK h;obtain⟨p,ws,rfl,I,J⟩:=r.lst;have:=ud J o;subst this;exact⟨p,bs,rfl,.inl (Rd.mono bK I),k _ _ (s.stk (.cons .mkB C))⟩
theorem zu(ds:List D)(d:D)(h:jn ds=some d): ∃es bs,ds=[.lst es]/\boolsOf es=some bs/\d= .bl (bs.all id):=by
 unfold jn at h;split at h;. rename_i es;cases q:boolsOf es with
  |none=>rw[q]at h;cases h
  |some bs=>rw[q]at h;cases h;exact⟨es,bs,rfl,q,rfl⟩
 grind
theorem mE(hm:X.mg "all"=none)(o:DA X [a] fs)(C:Gl X "all":=by rfl)(I:X.calm=true:=by rfl)(he:starEach [a] X.env=[(false,eval a X.env)]:=by rfl):DE X (.Call (.Name "all" p) [a] [] pos) (mC jn fs):=
 fv (Cv I) (BC _ jn zu) C hm PyProof.Rows.boot_all o (by decide) (by rfl) he rfl
theorem pK(I:du X (.type T) r)(hd:ig r f)(J:Gl X x)(hm:X.mg x=none)(U:bootBuiltins x=some (.type T))(ha:DA X (a::es) fs)(hn:x≠"__name__":=by decide)(o:(x==("__debug__":Str))=false:=by decide)
  (he:starEach (a::es) X.env=(false,eval a X.env)::starEach es X.env:=by rfl)(C:(backTo pos (starEach es X.env)).any (·.1)=false:=by rfl):DE X (.Call (.Name x p) (a::es) [] pos) (mC f fs):=
 dj (fK I J hm U ha hn o he C) (HG hd)
theorem zI(I:du X (.type T) r)(hd:A4 r f)(J:Gl X x)(hm:X.mg x=none)(U:bootBuiltins x=some (.type T))(ha:DA X (a::es) fs)(hn:x≠"__name__":=by decide)(o:(x==("__debug__":Str))=false:=by decide)
  (he:starEach (a::es) X.env=(false,eval a X.env)::starEach es X.env:=by rfl)(C:(backTo pos (starEach es X.env)).any (·.1)=false:=by rfl):DF X (.Call (.Name x p) (a::es) [] pos) (mC f fs):=
 dj (fK I J hm U ha hn o he C) (Kb hd)
noncomputable def lP:D->Option (List D)
 | .tup ds=>some ds
 | .lst ds=>some ds
 |_=>none
noncomputable def dQ:List D->Option D
 |[x]=>(lP x).map .tup
 |_=>none
theorem Bo:ig (λ xs H Q=> ∃p ys,xs=[.ref p]/\((jr K H p ys/\ ∀l,H l=none->Q (.ref l) (upd H l (.tup ys)))\/(gm K H p ys/\Q (.ref p) H))) dQ:= λ c U S σ T H ds vs d Q l s e k=>by
 unfold dQ at e;split at e;. rename_i x;have h:=s.st.left l;have I:=s.st.right l;obtain⟨v,rfl,r⟩:=tK h;cases x with
  |tup es=>cases e;obtain⟨p,ws,rfl,o,C⟩:=r.tup;exact⟨p,ws,rfl,.inr ⟨.of (bK _ _ o),k _ _ (s.stk (.cons (.mkT o C) I))⟩⟩
  |lst es=>cases e;obtain⟨p,ws,rfl,o,C⟩:=r.lst;exact⟨p,ws,rfl,.inl ⟨.inl (Rd.mono bK o),λ q J=>k _ _ ((s.stk (C.append I)).newTup C.length J)⟩⟩
  |_=>cases e
 grind
theorem eF(hm:X.mg "tuple"=none)(o:DA X [a] fs)(C:Gl X "tuple":=by rfl)(he:starEach [a] X.env=[(false,eval a X.env)]:=by rfl):DE X (.Call (.Name "tuple" p) [a] [] pos) (mC dQ fs):=
 pK jt Bo C hm (by rfl) o (by decide) (by rfl) he rfl
noncomputable def dList:List D->Option (List D)
 |[x]=>lP x
 |_=>none
theorem Gh:A4 (λ xs H Q=> ∃p ys,xs=[.ref p]/\(jr K H p ys\/gm K H p ys)/\ ∀l,H l=none->Q (.ref l) (upd H l (.lst ys))) dList:= λ c δ S σ T H ds vs d Q l s e k=>by
 unfold dList at e;split at e;. rename_i x;have h:=s.st.left l;have U:=s.st.right l;obtain⟨v,rfl,r⟩:=tK h;cases x with
  |tup es=>cases e;obtain⟨p,ws,rfl,I,o⟩:=r.tup;refine⟨p,ws,rfl,.inr (.of (bK _ _ I)),λ q C=>?_⟩;have s1:=s.stk (o.append U);obtain⟨f1,f2,J⟩:=s1.fresh C;exact k q ws _ o.length (s1.hide C) f1 f2 J
  |lst es=>cases e;obtain⟨p,ws,rfl,I,o⟩:=r.lst;refine⟨p,ws,rfl,.inl (.inl (Rd.mono bK I)),λ q C=>?_⟩;have s1:=s.stk (o.append U);obtain⟨f1,f2,J⟩:=s1.fresh C;exact k q ws _ o.length (s1.hide C) f1 f2 J
  |_=>cases e
 grind
theorem Fj (hm:X.mg "list" = none) (ha:DA X [a] fs) (hg:Gl X "list":=by rfl) (he:starEach [a] X.env=[(false,eval a X.env)]:=by rfl):DF X (.Call (.Name "list" p) [a] [] pos) (mC dList fs) :=
 zI rQ Gh hg hm (by rfl) ha (by decide) (by rfl) he rfl
noncomputable def flat:D->Option V
 | .non=>some .non
 | .bl b=>some (.bl b)
 | .int i=>some (.int i)
 | .str x=>some (.str x)
 |_=>none
theorem eZ(r:R H d v)(e:flat d=some u):v=u/\iH u=true:=by cases d with
 |non=>cases e;exact⟨r.non,rfl⟩
 |bl b=>cases e;exact⟨r.bl,rfl⟩
 |int b=>cases e;exact⟨r.int,rfl⟩
 |str b=>cases e;exact⟨r.str,rfl⟩
 |_=>cases e
noncomputable def mD:List D->Option (List V)
 |[]=>some []
 |d::ds=>match flat d,mD ds with
  |some v,some vs=>some (v::vs)
  |_,_=>none
theorem ot: ∀{ds:List D}{vs us:List V},Rs H ds vs->mD ds=some us->vs=us/\us.all iH=true
 |[],vs,us,h,e=>by cases e;exact⟨h.inv0,rfl⟩
 |d::ds,vs,us,h,e=>by
  obtain⟨v,r,ev,o,C⟩:=h.inv;unfold mD at e;split at e;. rename_i w ws I J;cases e;obtain⟨a1,a2⟩:=eZ o I;obtain⟨b1,U⟩:=ot C J;refine⟨by rw[ev,a1,b1],?_⟩;rw[List.all_cons,a2,U];rfl
  grind
noncomputable def kq(neg:Bool)(x y:D):Option D:=match flat x,lP y with
 |some v,some ds=>(mD ds).map λ vs=> .bl (if neg then !L3 v vs else L3 v vs)
 |_,_=>none
theorem wc:uF (P2 K neg) (kq neg):= λ c δ S σ T H x y v u d Q s e k=>by
 unfold kq at e;split at e;. rename_i w ds U C;cases o:mD ds with
  |none=>rw[o]at e;cases e
  |some vs=>rw[o]at e;cases e;obtain⟨rfl,f1⟩:=eZ s.st.tail.head U;cases y with
   |tup es=>cases C;obtain⟨p,ws,rfl,I,J⟩:=s.st.head.tup;obtain⟨rfl,f2⟩:=ot J o;exact⟨p,ws,rfl,.inr (.of (bK _ _ I)),f1,f2,k _ _ (s.stk (.cons .mkB s.st.tail.tail))⟩
   |lst es=>cases C;obtain⟨p,ws,rfl,I,J⟩:=s.st.head.lst;obtain⟨rfl,f2⟩:=ot J o;exact⟨p,ws,rfl,.inl (.inl (Rd.mono bK I)),f1,f2,k _ _ (s.stk (.cons .mkB s.st.tail.tail))⟩
   |_=>cases C
 grind
theorem BK(o:DE X a fa)(C:DE X b fb)(hm:behindInMarks .In b=false:=by rfl):DE X (.Compare a [.In] [b] pos) (m2 (kq false) fa fb):=ou qk wc o C hm
theorem j4(o:DE X a fa)(C:DE X b fb)(hm:behindInMarks .In b=false:=by rfl):DT X (.Compare a [.In] [b] pos) (m2 (kq false) fa fb >>= dD):=ic qk wc o C hm
theorem oz(o:DE X a fa)(C:DE X b fb)(hm:behindInMarks .NotIn b=false:=by rfl):DT X (.Compare a [.NotIn] [b] pos) (m2 (kq true) fa fb >>= dD):=ic sJ wc o C hm
noncomputable def cQ(neg:Bool)(x y:D):Option D:=match flat x,flat y with
 |some v,some u=>if ke v u=true then some (.bl (if neg then !decide (v=u)else decide (v=u)))else none
 |_,_=>none
theorem sI:uF P4 (cQ false):= λ c I S σ T H x y v u d Q s e k=>by
 unfold cQ at e;split at e
 .rename_i w z o C;split at e
  .rename_i hs;cases e;obtain⟨rfl,_⟩:=eZ s.st.tail.head o;obtain⟨rfl,_⟩:=eZ s.st.head C;exact⟨hs,k _ _ (s.stk (.cons .mkB s.st.tail.tail))⟩
  .cases e
 grind
theorem yo:uF ND (cQ true):= λ c I S σ T H x y v u d Q s e k=>by
 unfold cQ at e;split at e
 .rename_i w z o C;split at e
  .rename_i hs;cases e;obtain⟨rfl,_⟩:=eZ s.st.tail.head o;obtain⟨rfl,_⟩:=eZ s.st.head C;exact⟨hs,k _ _ (s.stk (.cons .mkB s.st.tail.tail))⟩
  .cases e
 grind
theorem Bt(o:DE X a fa)(C:DE X b fb):DE X (.Compare a [.Eq] [b] pos) (m2 (cQ false) fa fb):=ou CU sI o C
theorem i3(o:DE X a fa)(C:DE X b fb):DT X (.Compare a [.Eq] [b] pos) (m2 (cQ false) fa fb >>= dD):=ic CU sI o C
theorem rT(o:DE X a fa)(C:DE X b fb):DT X (.Compare a [.NotEq] [b] pos) (m2 (cQ true) fa fb >>= dD):=ic B8 yo o C
end
section
variable {X:Cx} {a b e:Expr} {fa fb:M D} {fs:M (List D)} {pos p:Pos} {x:Str}
noncomputable def kD:List D->Option D
 |[.int i,.int j]=>some (.int (if j<i then j else i))
 |_=>none
noncomputable def jq:List D->Option D
 |[.int i,.int j]=>some (.int (if j>i then j else i))
 |_=>none
theorem IA(g:Int->Int->Int)(f:List D->Option D)(hf: ∀ds d,f ds=some d-> ∃i j,ds=[.int i,.int j]/\d= .int (g i j)):ig (λ xs H Q=> ∃i j,xs=[.int i,.int j]/\Q (.int (g i j)) H) f:= λ c I S σ T H ds vs d Q l s e k=>by obtain⟨i,j,rfl,rfl⟩:=hf _ _ e;obtain⟨v,u,rfl,o,C⟩:=OE (s.st.left l);cases o.int;cases C.int;exact⟨i,j,rfl,k _ _ (s.stk (.cons .mkI (s.st.right l)))⟩
theorem yz(ds:List D)(d:D)(h:kD ds=some d): ∃i j,ds=[.int i,.int j]/\d= .int (if j<i then j else i):=by unfold kD at h;grind
theorem zy(ds:List D)(d:D)(h:jq ds=some d): ∃i j,ds=[.int i,.int j]/\d= .int (if j>i then j else i):=by unfold jq at h;grind
theorem rG (hm:X.mg "min" = none) (ha:DA X [a,b] fs) (hg:Gl X "min":=by rfl) (hc:X.calm=true:=by rfl) (he:starEach [a,b] X.env=(false,eval a X.env) :: starEach [b] X.env:=by rfl) (hp:(backTo pos (starEach [b] X.env)).any (·.1)=false:=by rfl):DE X (.Call (.Name "min" p) [a,b] [] pos) (mC kD fs) :=
 fv (yQ hc) (IA _ kD yz) hg hm (by rfl) ha (by decide) (by rfl) he hp
theorem nz (hm:X.mg "max" = none) (ha:DA X [a,b] fs) (hg:Gl X "max":=by rfl) (hc:X.calm=true:=by rfl) (he:starEach [a,b] X.env=(false,eval a X.env) :: starEach [b] X.env:=by rfl) (hp:(backTo pos (starEach [b] X.env)).any (·.1)=false:=by rfl):DE X (.Call (.Name "max" p) [a,b] [] pos) (mC jq fs) :=
 fv (zh hc) (IA _ jq zy) hg hm (by rfl) ha (by decide) (by rfl) he hp
noncomputable def HU:D->D->Option D
 | .tup (x::xs),.tup ys=>if xs.length+1+ys.length<=100000 then some (.tup ((x::xs)++ys))else none
 |_,_=>none
theorem DV:uF (DY K) HU:= λ c δ S σ T H x y v u d Q s e k=>by
 unfold HU at e;split at e
 .rename_i x xs ys;split at e
  .cases e;obtain⟨p,ws,rfl,J,C⟩:=s.st.tail.head.tup;obtain⟨q,zs,rfl,U,o⟩:=s.st.head.tup;have hl:100000<sizeLine:=by decide
   have I:=C.length;have l2:=o.length;rw[List.length_cons]at I;refine⟨p,q,ws,zs,rfl,rfl,.of (bK _ _ J),.of (bK _ _ U),λ z=>(by rw[z]at I;simp at I),by omega,λ z=>?_,λ z r hr=>?_⟩;. rw[z]at o;cases ys with
    |nil=>rw[List.append_nil]at k;exact k _ _ (s.stk (.cons s.st.tail.head s.st.tail.tail))
    |cons y ys=>obtain⟨_,_,e,_⟩:=o.inv;cases e
   .have s1:=s.stk ((C.append o).append s.st.tail.tail);exact k _ _ (s1.newTup (by rw[List.length_append,List.length_append,o.length,C.length]) hr)
  grind
 grind
noncomputable def dI:Nat->D->D->Option Bool
 |0,_,_=>none
 |n+1,.tup xs,.tup ys=>(go n xs ys).map λ b=>b&&xs.length==ys.length
 |n+1,.lst xs,.lst ys=>if xs.length=ys.length then go n xs ys else some false
 |_+1,x,y=>match flat x,flat y with
  |some v,some u=>some (xG v u)
  |_,_=>none
where
 go(n:Nat):List D->List D->Option Bool
  |x::xs,y::ys=>match dI n x y,go n xs ys with
   |some a,some b=>some (a&&b)
   |_,_=>none
  |_,_=>some true
theorem yr: ∀{a b:List (Int×Int)},(a.map λ p=>((.inl p.1,.int p.2):Key×V))=b.map (λ p=>(.inl p.1,.int p.2))->a=b
 |[],[],_=>rfl
 |[],_::_,h=>by cases h
 |_::_,[],h=>by cases h
 |(x,y)::a,(z,w)::b,h=>by simp at h;rw[yr h.2,h.1.1,h.1.2]
theorem w6: ∀{a b:List ((Int×Int)×Int)},(a.map λ p=>(([.inl p.1.1,.inl p.1.2],.int p.2):List Key×V))=b.map (λ p=>([.inl p.1.1,.inl p.1.2],.int p.2))->a=b
 |[],[],_=>rfl
 |[],_::_,h=>by cases h
 |_::_,[],h=>by cases h
 |((x,o),y)::a,((z,C),w)::b,h=>by simp at h;rw[w6 h.2,h.1.1.1,h.1.1.2,h.1.2]
mutual
theorem R.inj {H:Hp}:∀ (x y:D) (v:V),R H x v->R H y v->x=y
 | .non,y,v,h,g=>by
  cases h.non
  cases y with
  | non=>rfl
  | bl b=>cases g.bl
  | int b=>cases g.int
  | str b=>cases g.str
  | tup b=>obtain ⟨_,_,e,_⟩:=g.tup;cases e
  | lst b=>obtain ⟨_,_,e,_⟩:=g.lst;cases e
  | dct=>obtain ⟨_,e,_⟩:=g.dct;cases e
  | dic _=>obtain ⟨_,e,_⟩:=g.dic;cases e
  | dip _=>obtain ⟨_,e,_⟩:=g.dip;cases e
 | .bl x,y,v,h,g=>by
  cases h.bl
  cases y with
  | non=>cases g.non
  | bl b=>cases g.bl;rfl
  | int b=>cases g.int
  | str b=>cases g.str
  | tup b=>obtain ⟨_,_,e,_⟩:=g.tup;cases e
  | lst b=>obtain ⟨_,_,e,_⟩:=g.lst;cases e
  | dct=>obtain ⟨_,e,_⟩:=g.dct;cases e
  | dic _=>obtain ⟨_,e,_⟩:=g.dic;cases e
  | dip _=>obtain ⟨_,e,_⟩:=g.dip;cases e
 | .int x,y,v,h,g=>by
  cases h.int
  cases y with
  | non=>cases g.non
  | bl b=>cases g.bl
  | int b=>cases g.int;rfl
  | str b=>cases g.str
  | tup b=>obtain ⟨_,_,e,_⟩:=g.tup;cases e
  | lst b=>obtain ⟨_,_,e,_⟩:=g.lst;cases e
  | dct=>obtain ⟨_,e,_⟩:=g.dct;cases e
  | dic _=>obtain ⟨_,e,_⟩:=g.dic;cases e
  | dip _=>obtain ⟨_,e,_⟩:=g.dip;cases e
 | .str x,y,v,h,g=>by
  cases h.str
  cases y with
  | non=>cases g.non
  | bl b=>cases g.bl
  | int b=>cases g.int
  | str b=>cases g.str;rfl
  | tup b=>obtain ⟨_,_,e,_⟩:=g.tup;cases e
  | lst b=>obtain ⟨_,_,e,_⟩:=g.lst;cases e
  | dct=>obtain ⟨_,e,_⟩:=g.dct;cases e
  | dic _=>obtain ⟨_,e,_⟩:=g.dic;cases e
  | dip _=>obtain ⟨_,e,_⟩:=g.dip;cases e
 | .tup xs,y,v,h,g=>by
  obtain ⟨a,vs,rfl,h1,h2⟩:=h.tup
  cases y with
  | non=>cases g.non
  | bl b=>cases g.bl
  | int b=>cases g.int
  | str b=>cases g.str
  | tup ys=>
   obtain ⟨a',vs',e,g1,g2⟩:=g.tup
   cases e
   rw [h1] at g1;cases g1
   rw [Rs.inj xs ys vs h2 g2]
  | lst ys=>
   obtain ⟨a',vs',e,g1,g2⟩:=g.lst
   cases e
   rcases g1 with g1 | ⟨o,g1⟩ <;> (rw [h1] at g1;cases g1)
  | dct=>
   obtain ⟨a',e,g1⟩:=g.dct
   cases e
   rw [h1] at g1;cases g1
  | dic _=>
   obtain ⟨a',e,g1⟩:=g.dic
   cases e
   rw [h1] at g1;cases g1
  | dip _=>
   obtain ⟨a',e,g1⟩:=g.dip
   cases e
   rw [h1] at g1;cases g1
 | .lst xs,y,v,h,g=>by
  obtain ⟨a,vs,rfl,h1,h2⟩:=h.lst
  cases y with
  | non=>cases g.non
  | bl b=>cases g.bl
  | int b=>cases g.int
  | str b=>cases g.str
  | tup ys=>
   obtain ⟨a',vs',e,g1,g2⟩:=g.tup
   cases e
   rcases h1 with h1 | ⟨o,h1⟩ <;> (rw [h1] at g1;cases g1)
  | lst ys=>
   obtain ⟨a',vs',e,g1,g2⟩:=g.lst
   cases e
   have:vs' = vs:= by
    rcases h1 with h1 | ⟨o,h1⟩ <;> rcases g1 with g1 | ⟨o',g1⟩ <;> (rw [h1] at g1;first | (cases g1;rfl) | cases g1)
   subst this
   rw [Rs.inj xs ys _ h2 g2]
  | dct=>
   obtain ⟨a',e,g1⟩:=g.dct
   cases e
   rcases h1 with h1 | ⟨o,h1⟩ <;> (rw [h1] at g1;cases g1)
  | dic _=>
   obtain ⟨a',e,g1⟩:=g.dic
   cases e
   rcases h1 with h1 | ⟨o,h1⟩ <;> (rw [h1] at g1;cases g1)
  | dip _=>
   obtain ⟨a',e,g1⟩:=g.dip
   cases e
   rcases h1 with h1 | ⟨o,h1⟩ <;> (rw [h1] at g1;cases g1)
 | .dct,y,v,h,g=>by
  obtain ⟨a,rfl,h1⟩:=h.dct
  cases y with
  | non=>cases g.non
  | bl b=>cases g.bl
  | int b=>cases g.int
  | str b=>cases g.str
  | tup ys=>
   obtain ⟨a',vs',e,g1,g2⟩:=g.tup
   cases e
   rw [h1] at g1;cases g1
  | lst ys=>
   obtain ⟨a',vs',e,g1,g2⟩:=g.lst
   cases e
   rcases g1 with g1 | ⟨o,g1⟩ <;> (rw [h1] at g1;cases g1)
  | dct=>rfl
  | dic _=>
   obtain ⟨a',e,g1⟩:=g.dic
   cases e
   rw [h1] at g1;cases g1
  | dip _=>
   obtain ⟨a',e,g1⟩:=g.dip
   cases e
   rw [h1] at g1;cases g1
 | .dic xs,y,v,h,g=>by
  obtain ⟨a,rfl,h1⟩:=h.dic
  cases y with
  | non=>cases g.non
  | bl b=>cases g.bl
  | int b=>cases g.int
  | str b=>cases g.str
  | tup ys=>
   obtain ⟨a',vs',e,g1,g2⟩:=g.tup
   cases e
   rw [h1] at g1;cases g1
  | lst ys=>
   obtain ⟨a',vs',e,g1,g2⟩:=g.lst
   cases e
   rcases g1 with g1 | ⟨o,g1⟩ <;> (rw [h1] at g1;cases g1)
  | dct=>
   obtain ⟨a',e,g1⟩:=g.dct
   cases e
   rw [h1] at g1;cases g1
  | dic ys=>
   obtain ⟨a',e,g1⟩:=g.dic
   cases e
   rw [h1] at g1
   rw [yr (HO.dK.inj (Option.some.inj g1))]
  | dip ys=>
   obtain ⟨a',e,g1⟩:=g.dip
   cases e
   rw [h1] at g1;cases g1
 | .dip xs,y,v,h,g=>by
  obtain ⟨a,rfl,h1⟩:=h.dip
  cases y with
  | non=>cases g.non
  | bl b=>cases g.bl
  | int b=>cases g.int
  | str b=>cases g.str
  | tup ys=>
   obtain ⟨a',vs',e,g1,g2⟩:=g.tup
   cases e
   rw [h1] at g1;cases g1
  | lst ys=>
   obtain ⟨a',vs',e,g1,g2⟩:=g.lst
   cases e
   rcases g1 with g1 | ⟨o,g1⟩ <;> (rw [h1] at g1;cases g1)
  | dct=>
   obtain ⟨a',e,g1⟩:=g.dct
   cases e
   rw [h1] at g1;cases g1
  | dic ys=>
   obtain ⟨a',e,g1⟩:=g.dic
   cases e
   rw [h1] at g1;cases g1
  | dip ys=>
   obtain ⟨a',e,g1⟩:=g.dip
   cases e
   rw [h1] at g1
   rw [w6 (HO.dT.inj (Option.some.inj g1))]
theorem Rs.inj {H:Hp}:∀ (xs ys:List D) (vs:List V),Rs H xs vs->Rs H ys vs->xs=ys
 | [],ys,vs,h,g=>by
  cases h.inv0
  cases ys with
  | nil=>rfl
  | cons y ys=>obtain ⟨_,_,e,_⟩:=g.inv;cases e
 | x :: xs,ys,vs,h,g=>by
  obtain ⟨v,r,rfl,h1,h2⟩:=h.inv
  cases ys with
  | nil=>cases g.inv0
  | cons y ys=>rw [R.inj x y v h1 g.head,Rs.inj xs ys r h2 g.tail]
end
theorem kU: ∀{xs ys:List D}{b:Bool},dI.go n xs ys=some b-> ∃e:Nat->Bool,(∀(j:Nat) x y,xs[j]?=some x->ys[j]?=some y->dI n x y=some (e j))/\b=(List.range (min xs.length ys.length)).all e
 |[],ys,b,h=>by cases h;exact⟨λ _=>true,λ j x y o=>by simp at o,by simp⟩
 |x::xs,[],b,h=>by cases h;exact⟨λ _=>true,λ j x y o C=>by simp at C,by simp⟩
 |x::xs,y::ys,b,h=>by
  unfold dI.go at h;split at h
  .rename_i b1 U e1 I;cases h;obtain⟨e,he,J⟩:=kU I;refine⟨λ j=>match j with|0=>b1|j+1=>e j,λ j x' y' o C=>?_,?_⟩;. grind
   .rw[List.length_cons,List.length_cons,Nat.add_min_add_right,List.range_succ_eq_map,List.all_cons,List.all_map,J];rfl
  grind
theorem j5(h:iH v=true):xG v v=true:=by cases v with
 |non=>rfl
 |bl b=>cases b <;> rfl
 |int i=>exact beq_self_eq_true i
 |str x=>exact beq_self_eq_true x
 |_=>cases h
theorem C7: ∀(n:Nat)(x:D)(b:Bool),dI n x x=some b->b=true:=by intro n;induction n with
 |zero=>intro x b h;simp[dI]at h
 |succ n I=>
  have go: ∀(xs:List D)(b:Bool),dI.go n xs xs=some b->b=true:= λ xs b h=>by obtain⟨e,he,C⟩:=kU h;rw[Nat.min_self]at C;subst C;rw[List.all_eq_true];intro j J;have o:=List.mem_range.mp J;exact I _ _ (he j _ _ (List.getElem?_eq_getElem o) (List.getElem?_eq_getElem o))
  intro x b h;cases x with
  |tup xs=>unfold dI at h;cases q:dI.go n xs xs with
   |none=>rw[q]at h;cases h
   |some U=>rw[q]at h;cases h;rw[go xs U q];simp
  |lst xs=>unfold dI at h;grind
  |non=>simp[dI,flat]at h;rw[<- h];exact j5 rfl
  |bl q=>simp[dI,flat]at h;rw[<- h];exact j5 rfl
  |int q=>simp[dI,flat]at h;rw[<- h];exact j5 rfl
  |str q=>simp[dI,flat]at h;rw[<- h];exact j5 rfl
  |dct=>simp[dI,flat]at h
  |dic _=>simp[dI,flat]at h
  |dip _=>simp[dI,flat]at h
open SeqAt in
theorem Ay {pins:List (Addr × Obj)} {σ:St} {H Hh:Hp} {s:Shared} (I:Inv X pins σ H s) (m:∀ b o,Hh b=some o->H b=some o):∀ (n:Nat) (A:Around),A.units + n < cLine->∀ (x y:D) (v w:V) (u z:Value) (b:Bool),R Hh x v->R Hh y w->RelV v u->RelV w z->dI n x y=some b ->
  EqAt A s u z b∧((∃ xs,x=.tup xs ∨ x=.lst xs)->RcAt A s u z b):= by
 intro n
 induction n with
 | zero=>intro A _ x y v w u z b _ _ _ _ h;simp [dI] at h
 | succ n ih=>
  intro A hu x y v w u z b rx ry ru rz h
  have hu':A.units < cLine:=by omega
  have items:∀ {xs ys:List D} {vs ws:List V} {is js:List Value} {e:Nat->Bool},Rs Hh xs vs->Rs Hh ys ws->Vals vs is->Vals ws js->(∀ (j:Nat) x y,xs[j]? = some x->ys[j]? = some y->dI n x y=some (e j)) ->
    ∀ j (h1:j < is.toArray.size) (h2:j < js.toArray.size),EqAt A.in1 s is.toArray[j] js.toArray[j] (e j):=fun {xs ys vs ws is js e} r1 r2 v1 v2 he j h1 h2=>by
   have l1:j < xs.length:=by rw [<- r1.length,v1.length];simpa using h1
   have l2:j < ys.length:=by rw [<- r2.length,v2.length];simpa using h2
   obtain ⟨v',e1,q1⟩:=r1.get (List.getElem?_eq_getElem l1)
   obtain ⟨w',e2,q2⟩:=r2.get (List.getElem?_eq_getElem l2)
   obtain ⟨u',e3,q3⟩:=v1.get e1
   obtain ⟨z',e4,q4⟩:=v2.get e2
   have:=(ih A.in1 (by show A.units + 1 + n < _;omega) _ _ v' w' u' z' (e j) q1 q2 q3 q4 (he j _ _ (List.getElem?_eq_getElem l1) (List.getElem?_eq_getElem l2))).1
   have a1:is.toArray[j]=u':= by
    have:=(List.getElem?_eq_some_iff.mp e3).2
    simpa using this
   have a2:js.toArray[j]=z':= by
    have:=(List.getElem?_eq_some_iff.mp e4).2
    simpa using this
   rw [a1,a2];exact this
  have refs:∀ {l k:Addr},u=.ref l->z=.ref k->v=.ref l->w=.ref k->RcAt A s u z b->EqAt A s u z b:=fun {l k} eu ez ev ew rc=>by
   by_cases hlk:l=k
   .subst hlk
    rw [ev] at rx;rw [ew] at ry
    have:=R.inj x y _ rx ry
    subst this
    rw [C7 _ _ _ h,eu,ez]
    exact EqAt.same _
   .rw [eu,ez] at rc ⊢;exact EqAt.of_refs hlk rc
  have flatCase:∀ {p q:V},flat x=some p->flat y=some q->b=xG p q->EqAt A s u z b:=fun {p q} e1 e2 eb=>by
   obtain ⟨rfl,f1⟩:=eZ rx e1
   obtain ⟨rfl,f2⟩:=eZ ry e2
   rw [eb];exact A6 ru rz f1 f2
  have flatAll:(∀ xs,x ≠ .tup xs)->(∀ xs,x ≠ .lst xs)->∀ p,flat x=some p->EqAt A s u z b:=fun _ _ p e1=>by
   cases y with
   | tup ys=>cases x <;> first | (simp [dI,flat] at h;done) | (cases e1;done)
   | lst ys=>cases x <;> first | (simp [dI,flat] at h;done) | (cases e1;done)
   | dct=>cases x <;> first | (simp [dI,flat] at h;done) | (cases e1;done)
   | dic _=>cases x <;> first | (simp [dI,flat] at h;done) | (cases e1;done)
   | dip _=>cases x <;> first | (simp [dI,flat] at h;done) | (cases e1;done)
   | non=>exact flatCase e1 rfl (by cases x <;> first | (cases e1;simpa [dI,flat] using h.symm) | cases e1)
   | bl q=>exact flatCase e1 rfl (by cases x <;> first | (cases e1;simpa [dI,flat] using h.symm) | cases e1)
   | int q=>exact flatCase e1 rfl (by cases x <;> first | (cases e1;simpa [dI,flat] using h.symm) | cases e1)
   | str q=>exact flatCase e1 rfl (by cases x <;> first | (cases e1;simpa [dI,flat] using h.symm) | cases e1)
  cases x with
  | dct=>simp [dI,flat] at h
  | dic _=>simp [dI,flat] at h
  | dip _=>simp [dI,flat] at h
  | non=>exact ⟨flatAll (fun _ z=>nomatch z) (fun _ z=>nomatch z) _ rfl,fun ⟨xs,z⟩=>by rcases z with z | z <;> cases z⟩
  | bl q=>exact ⟨flatAll (fun _ z=>nomatch z) (fun _ z=>nomatch z) _ rfl,fun ⟨xs,z⟩=>by rcases z with z | z <;> cases z⟩
  | int q=>exact ⟨flatAll (fun _ z=>nomatch z) (fun _ z=>nomatch z) _ rfl,fun ⟨xs,z⟩=>by rcases z with z | z <;> cases z⟩
  | str q=>exact ⟨flatAll (fun _ z=>nomatch z) (fun _ z=>nomatch z) _ rfl,fun ⟨xs,z⟩=>by rcases z with z | z <;> cases z⟩
  | tup xs=>
   cases y with
   | tup ys=>
    obtain ⟨l,vs,rfl,h1,h2⟩:=rx.tup
    obtain ⟨k,ws,rfl,g1,g2⟩:=ry.tup
    cases ru;cases rz
    obtain ⟨is,v1,p1,_⟩:=I.tuple (.of (m _ _ h1))
    obtain ⟨js,v2,p2,_⟩:=I.tuple (.of (m _ _ g1))
    have s1:is.toArray.size=xs.length:=by rw [List.size_toArray,<- v1.length,h2.length]
    have s2:js.toArray.size=ys.length:=by rw [List.size_toArray,<- v2.length,g2.length]
    have rc:RcAt A s (.ref l) (.ref k) b:= by
     unfold dI at h
     cases q:dI.go n xs ys with
     | none=>rw [q] at h;cases h
     | some b'=>
      rw [q] at h;cases h
      obtain ⟨e,he,hb⟩:=kU q
      have:=RcAt.tuples p1 p2 hu' (items h2 g2 v1 v2 he)
      rw [s1,s2,<- hb] at this
      exact this
    exact ⟨refs rfl rfl rfl rfl rc,fun _=>rc⟩
   | _=>simp [dI,flat] at h
  | lst xs=>
   cases y with
   | lst ys=>
    obtain ⟨l,vs,rfl,h1,h2⟩:=rx.lst
    obtain ⟨k,ws,rfl,g1,g2⟩:=ry.lst
    cases ru;cases rz
    obtain ⟨is,v1,p1,_⟩:=I.list (.inl (Rd.mono m h1))
    obtain ⟨js,v2,p2,_⟩:=I.list (.inl (Rd.mono m g1))
    have s1:is.toArray.size=xs.length:=by rw [List.size_toArray,<- v1.length,h2.length]
    have s2:js.toArray.size=ys.length:=by rw [List.size_toArray,<- v2.length,g2.length]
    have rc:RcAt A s (.ref l) (.ref k) b:= by
     unfold dI at h
     split at h
     .rename_i hl
      obtain ⟨e,he,hb⟩:=kU h
      have:=RcAt.lists p1.isList p2.isList (by rw [s1,s2,hl]) hu' (items h2 g2 v1 v2 he)
      rw [hb,<- hl,Nat.min_self,<- s1];exact this
     .rename_i hl
      cases h
      exact RcAt.lists_lengths p1.isList p2.isList (by rw [s1,s2];simpa using hl) hu'
    grind
   | _=>simp [dI,flat] at h
theorem nY(o:cX k A):A.units+20<cLine:=by have:=o.un;omega
noncomputable def jB:D->D->Bool
 | .tup _,.tup _=>true
 | .lst _,.lst _=>true
 |_,_=>false
noncomputable def f9(neg:Bool)(x y:D):Option D:=if jB x y=true then(dI 9 x y).map λ b=> .bl (if neg then !b else b)else cQ neg x y
noncomputable def MN:R2:= λ v u H Q=>P4 v u H Q\/ ∃(C:Hp) (x y:D) (b:Bool),(∀b o,C b=some o->H b=some o)/\R C x v/\R C y u/\jB x y=true/\dI 9 x y=some b/\Q (.bl b) H
theorem JU(hu:X.A.units+20<cLine):gD X (compareOp .Eq) MN:=by
 intro pins s σ H v w u z Q I o C h;rcases h with h|⟨Hh,x,y,b,m,J,U,hs,e,q⟩
 .exact CU pins s σ H v w u z Q I o C h
 .have:=(Ay I m 9 X.A (by omega) x y v w u z b J U o C e).2 (by cases x <;> first|grind|exact⟨_,.inr rfl⟩|(simp[jB]at hs));exact this _ _ _ _ ⟨.bl b,H,I,rfl,q⟩
theorem Ef:uF MN (f9 false):= λ c o S σ T H x y v u d Q s e k=>by
 unfold f9 at e;split at e;. rename_i hs;cases q:dI 9 x y with
  |none=>rw[q]at e;cases e
  |some b=>rw[q]at e;cases e;exact .inr ⟨_,x,y,b,bK,s.st.tail.head,s.st.head,hs,q,k _ _ (s.stk (.cons .mkB s.st.tail.tail))⟩
 .exact .inl (sI c o S σ T H x y v u d Q s e k)
theorem mr(o:cX k X.A)(C:DE X a fa)(I:DE X b fb):DT X (.Compare a [.Eq] [b] pos) (m2 (f9 false) fa fb >>= dD):=ic (JU (nY o)) Ef C I
end
section
variable {X:Cx} {a b e:Expr} {fa fb:M D} {fs:M (List D)} {pos p:Pos} {x:Str}
open SeqAt in
theorem JV{σ:St}{H Hh:Hp}{s:Shared}(I:Inv X pins σ H s)(m: ∀b o,Hh b=some o->H b=some o){n:Nat}{A:Around}(hu:A.units+(n+1)<cLine){x y:D}{v w:V}{u z:Value}{b:Bool}(rx:R Hh x v)(ry:R Hh y w)(ru:RelV v u)(rz:RelV w z)
  (hs:jB x y=true)(h:dI (n+1) x y=some b):RcNeAt A s u z (!b):=by
 have U:A.units<cLine:=by omega
 have items: ∀{xs ys:List D}{vs ws:List V}{is C:List Value}{e:Nat->Bool},Rs Hh xs vs->Rs Hh ys ws->Vals vs is->Vals ws C->(∀(j:Nat) x y,xs[j]?=some x->ys[j]?=some y->dI n x y=some (e j))->
   ∀j(h1:j<is.toArray.size)(J:j<C.toArray.size),EqAt A.in1 s is.toArray[j] C.toArray[j] (e j):= λ{xs ys vs ws is C e} r1 r2 v1 v2 he j h1 J=>by
  have l1:j<xs.length:=by rw[<- r1.length,v1.length];simpa using h1
  have l2:j<ys.length:=by rw[<- r2.length,v2.length];simpa using J
  obtain⟨v',e1,q1⟩:=r1.get (List.getElem?_eq_getElem l1);obtain⟨w',e2,q2⟩:=r2.get (List.getElem?_eq_getElem l2);obtain⟨u',e3,q3⟩:=v1.get e1;obtain⟨z',e4,q4⟩:=v2.get e2;have:=(Ay I m n A.in1 (by show A.units+1+n<_;omega) _ _ v' w' u' z' (e j) q1 q2 q3 q4 (he j _ _ (List.getElem?_eq_getElem l1) (List.getElem?_eq_getElem l2))).1;grind
 cases x with
 |tup xs=>cases y with
  |tup ys=>
   obtain⟨l,vs,rfl,h1,J⟩:=rx.tup;obtain⟨k,ws,rfl,g1,g2⟩:=ry.tup;cases ru;cases rz;obtain⟨is,v1,p1,_⟩:=I.tuple (.of (m _ _ h1));obtain⟨C,v2,p2,_⟩:=I.tuple (.of (m _ _ g1));have s1:is.toArray.size=xs.length:=by rw[List.size_toArray,<- v1.length,J.length]
   have s2:C.toArray.size=ys.length:=by rw[List.size_toArray,<- v2.length,g2.length]
   unfold dI at h;cases q:dI.go n xs ys with
   |none=>rw[q]at h;cases h
   |some b'=>rw[q]at h;cases h;obtain⟨e,he,hb⟩:=kU q;have:=RcNeAt.tuples p1 p2 U (items J g2 v1 v2 he);rw[s1,s2,<- hb]at this;exact this
  |_=>simp[jB]at hs
 |lst xs=>cases y with
  |lst ys=>
   obtain⟨l,vs,rfl,h1,J⟩:=rx.lst;obtain⟨k,ws,rfl,g1,g2⟩:=ry.lst;cases ru;cases rz;obtain⟨is,v1,p1,_⟩:=I.list (.inl (Rd.mono m h1));obtain⟨C,v2,p2,_⟩:=I.list (.inl (Rd.mono m g1));have s1:is.toArray.size=xs.length:=by rw[List.size_toArray,<- v1.length,J.length]
   have s2:C.toArray.size=ys.length:=by rw[List.size_toArray,<- v2.length,g2.length]
   unfold dI at h;split at h;. rename_i hl;obtain⟨e,he,hb⟩:=kU h;have:=RcNeAt.lists p1.isList p2.isList (by rw[s1,s2,hl]) U (items J g2 v1 v2 he);rw[hb,<- hl,Nat.min_self,<- s1];exact this
   .rename_i hl;cases h;exact RcNeAt.lists_lengths p1.isList p2.isList (by rw[s1,s2];simpa using hl) U
  |_=>simp[jB]at hs
 |_=>simp[jB]at hs
noncomputable def N9:R2:= λ v u H Q=>ND v u H Q\/ ∃(C:Hp) (x y:D) (b:Bool),(∀b o,C b=some o->H b=some o)/\R C x v/\R C y u/\jB x y=true/\dI 9 x y=some b/\Q (.bl (!b)) H
theorem Dv(hu:X.A.units+20<cLine):gD X (compareOp .NotEq) N9:=by
 intro pins s σ H v w u z Q I o C h;rcases h with h|⟨Hh,x,y,b,m,J,U,hs,e,q⟩
 .exact B8 pins s σ H v w u z Q I o C h
 .exact JV I m (n:=8) (A:=X.A) (by omega) J U o C hs e _ _ _ _ ⟨.bl (!b),H,I,rfl,q⟩
theorem FK:uF N9 (f9 true):= λ c o S σ T H x y v u d Q s e k=>by
 unfold f9 at e;split at e;. rename_i hs;cases q:dI 9 x y with
  |none=>rw[q]at e;cases e
  |some b=>rw[q]at e;cases e;exact .inr ⟨_,x,y,b,bK,s.st.tail.head,s.st.head,hs,q,k _ _ (s.stk (.cons .mkB s.st.tail.tail))⟩
 .exact .inl (yo c o S σ T H x y v u d Q s e k)
theorem jV(o:cX k X.A)(C:DE X a fa)(I:DE X b fb):DT X (.Compare a [.NotEq] [b] pos) (m2 (f9 true) fa fb >>= dD):=ic (Dv (nY o)) FK C I
noncomputable def L_(ta:TA):TE:= λ σ H Q=>ta σ H λ vs H1=> ∃j:Int,vs=[.int j]/\ ∀q,H1 q=none->Q (.ref q) (upd H1 q (.rng 0 j))
theorem pA(C:Gl X "range")(hm:X.mg "range"=none)(J:PA X [a] ta)(hs:starEach [a] X.env=[(false,eval a X.env)]:=by rfl):PE X (.Call (.Name "range" p) [a] [] pos) (L_ ta):=by intro pins s σ H Q I h;refine PyProof.Rows.Call_ (i9 I C hm (show bootBuiltins "range"=some (.type "range")by decide+kernel) (PyProof.Rows.callWith_type1 (c_ (J pos pins s σ H _ I h) λ us s1 ⟨vs,H1,o,U,q1⟩=>?_) hs rfl));obtain⟨j,e,q⟩:=q1;subst e;cases U with
 |cons r rr=>cases rr;obtain⟨t,rfl⟩:=r;refine call_range_1 ⟨.ref s1.heap.objs.size,upd H1 s1.heap.objs.size (.rng 0 j),o.laid (λ b u e=>Heap.get?_push_of_some _ e) (Nat.le_refl _) ?_,rfl,q _ o.fresh⟩;exact⟨_,_,_,Heap.get?_push_size _ rfl⟩
theorem nR{acc:Array Value}(h:ItemsOf (λ i v=> ∃t,v= .int (lo+i*1) t) acc n):Vals ((List.range n).map λ(i:Nat)=>V.int (lo+i)) acc.toList:=by
 obtain⟨U,I⟩:=h;have gen: ∀(us:List Value)(k:Nat),(∀(j:Nat) v,us[j]?=some v-> ∃t,v= .int (lo+((k+j:Nat):Int)) t)->Vals ((List.range us.length).map λ i=>V.int (lo+((k+i:Nat):Int))) us:=by intro us;induction us with
  |nil=>intro k _;exact .nil
  |cons u us J=>
   intro k C;rw[List.length_cons,List.range_succ_eq_map];obtain⟨t,e⟩:=C 0 u rfl;refine .cons ⟨t,by simpa using e⟩ ?_;have:=J (k+1) λ j v o=>by obtain⟨t,e⟩:=C (j+1) v (by simpa using o);exact⟨t,by rw[e];congr 2;omega⟩
   have e2:((λ i=>V.int (lo+((k+i:Nat):Int)))∘Nat.succ)= λ i=>V.int (lo+((k+1+i:Nat):Int)):=by funext i;show V.int _=V.int _;congr 2;omega
   simp_all
 have:=gen acc.toList 0 λ j v o=>by obtain⟨t,e⟩:=I j v (by simpa using o);exact⟨t,by rw[e];simp⟩
 grind
theorem wK(J:X.calm=true):du X (.type "list") (λ xs H Q=> ∃q j,xs=[.ref q]/\H q=some (.rng 0 j)/\j<100000/\ -(2^62)<=j/\ ∀l,H l=none->Q (.ref l) (upd H l (.lst ((List.range j.toNat).map λ(i:Nat)=>V.int (0+i))))):=by
 intro pins s σ H xs us Q I r h;obtain⟨q,j,rfl,U,hj,C,k⟩:=h;obtain⟨u,rfl,rx⟩:=r.one;cases rx;obtain⟨t,u',v,hr⟩:=I.hok q _ U;refine call_list_range (n:=j.toNat) (I.ok.hd J) hr (small_one (by omega) (by omega) C (by omega)) (by rw[rangeSize_one];split <;> omega) (by omega) λ h' tk o c' kp e hi=>?_;refine⟨.ref s.heap.objs.size,_,I.laid (t':=tk) kp (Nat.le_refl _) (show d8 X.prog X.w _ h' _ (.lst _)from⟨?_,o.toList,c',nR hi,by simpa using e⟩),rfl,k _ I.fresh⟩;have:100000<sizeLine:=by decide
 grind
noncomputable def iB:List D->Option (List D)
 |[.int j]=>if j<100000/\ -(2^62)<=j then some (cb 0 j.toNat)else none
 |_=>none
theorem qT:Rs H (cb lo n) ((List.range n).map λ(i:Nat)=>V.int (lo+i)):=by unfold cb;induction(List.range n)with
 |nil=>rfl
 |cons i r o=>exact .cons .mkI o
theorem nF{p2 C:Pos}(I:X.mg "list"=none)(J:X.mg "range"=none)(ha:DA X [a] fs)(U:Gl X "list":=by rfl)(aa:Gl X "range":=by rfl)(hc:X.calm=true:=by rfl)(hs:starEach [a] X.env=[(false,eval a X.env)]:=by rfl):
  DF X (.Call (.Name "list" p) [.Call (.Name "range" p2) [a] [] C] [] pos) (mC iB fs):=
 dj (fK (wK hc) U I (by decide+kernel) (bu (pA aa J ha hs) da) (by decide) (by decide) rfl rfl) λ σ H Q ⟨c,δ,S,T,d,ae,s,e,k⟩=>by
  obtain⟨ds,ab,e1,e⟩:=bind_some e;obtain⟨o,rfl⟩:=bc e;refine⟨c,δ,S,T,ds,ab,s,e1,λ vs H1 l s1=>?_⟩;unfold iB at o;split at o
  .rename_i j;split at o
   .rename_i hj;cases o;obtain⟨v,rfl,r⟩:=tK (s1.st.left l);cases r.int;refine⟨j,rfl,λ q hq=>⟨q,j,rfl,bz,hj.1,hj.2,λ m hm=>?_⟩⟩;have s2:=(s1.drop l).grow (fT hq (.rng 0 j));obtain⟨f1,f2,f3⟩:=s2.fresh hm;refine k m _ _ (qT (H:=H)).length ((s2.hide hm).stk ?_) f1 f2 f3;exact qT.append (s2.hide hm).st
   .cases o
  .cases o
end
section
variable {prog:Program} {w:World} {A:Around} {E:Value->Shared->Prop} {s:Shared}
theorem oX{r:Addr}{a b c:Int}{t u v:Tok}{n:Nat}(hh:A.handled=none)(hr:IsRange s.heap r a b c t u v)(C:Builtin.Range.small a b c=true)(hn:Builtin.Range.rangeSize a b c=n)(hlen:n<=2^24)
  (hQ: ∀h' tk acc,(∀b I,s.heap.get? b=some I->h'.get? b=some I)->ItemsOf (λ i v=> ∃t,v= .int (a+i*c) t) acc n->Q acc.toList { s with heap:=h',toks:=tk }):
  wpAny (model prog w) A (collect (.ref r)) Q E s:=by
 refine wpAny_bind (wpAny_runValue (codeAny_builtin F.entry_proto_collect ?_));refine wpAny_bind (wpAny_newObj_type ?_);refine wpAny_pure ⟨plainId_quiet F.plain_list_iadd _,codeAny_builtin F.entry_list_iadd ?_⟩;have hS:(s.heap.push { cls:= .type "list",data:= .seq ([]:List Value).toArray }).get? s.heap.objs.size=some { cls:= .type "list",data:= .seq #[] 0 }:=Heap.get?_push_size _ rfl;refine wpAny_mono (wpAny_extend_range (A:=A) (R:= λ q s'=>q= .ok (.ret (.ref s.heap.objs.size))/\ ∃h' tk acc J,s'={ s with heap:=h',toks:=tk }/\(∀b I,s.heap.get? b=some I->h'.get? b=some I)/\h'.get? s.heap.objs.size=some { cls:= .type "list",dict:=none,data:= .seq acc J,slots:=#[] }/\ItemsOf (λ i v=> ∃t,v= .int (a+i*c) t) acc n)
  (s:={ s with heap:=s.heap.push { cls:= .type "list",data:= .seq ([]:List Value).toArray } }) hh (Heap.get?_push_of_some _ hr) C hn hlen _ _ 0 hS λ h' tk aa J hk U hi=>⟨rfl,h',tk,aa,J,rfl,λ b o e=>hk b o (Nat.ne_of_lt (Heap.lt_size e)) (Heap.get?_push_of_some _ e),U,hi⟩) (λ fin s' h=>?_) (λ e s' h=>?_)
 .have ab: ∀s',(∃h' tk acc J,s'={ s with heap:=h',toks:=tk }/\(∀b I,s.heap.get? b=some I->h'.get? b=some I)/\h'.get? s.heap.objs.size=some { cls:= .type "list",dict:=none,data:= .seq acc J,slots:=#[] }/\ItemsOf (λ i v=> ∃t,v= .int (a+i*c) t) acc n)->
    wpAny (model prog w) A (match Value.ref s.heap.objs.size with
     |Value.ref a=>do
      match(<- load a).data with
       |Data.seq xs _=>pure xs.toList
       |_=>unsupported "internal:collect"
     |_=>unsupported "internal:collect") Q E s':= λ s' ⟨h',tk,acc,J,e,hk,U,hi⟩=>by
   subst e;refine wpAny_bind (wpAny_load U ?_);exact wpAny_pure (hQ h' tk acc hk hi)
  cases fin with
  |done f=>grind
  |again J=>exact⟨h.1,codeAny_mono h.2 λ r ae hr=>by obtain⟨rfl,hr⟩:=hr;exact ab ae hr⟩
 grind
end
theorem jZ(r:Addr){a b c:Int}{t u v:Tok}{n:Nat}(o:Builtin.Range.small a b c=true)(hn:Builtin.Range.rangeSize a b c=n)(hlen:n<=100000):
  Meets (Builtin.«tuple.__new__» ⟨[.type "tuple",.ref r],[]⟩)
   (λ A R s=>A.handled=none/\IsRange s.heap r a b c t u v/\ ∀(h':Heap)(tk:Nat)(acc:Array Value),(∀b U,s.heap.get? b=some U->h'.get? b=some U)->ItemsOf (λ i v=> ∃t,v= .int (a+i*c) t) acc n->R (.ok (.ret (.ref h'.objs.size))) { s with heap:=h'.push { cls:= .type "tuple",data:= .seq acc },toks:=tk }):=
 .of_wp λ prog w A R s h=>by
  obtain⟨hp,g,d,tk,os⟩:=s;obtain⟨hh,C,h⟩:=h;have aa:=sub_tuple_self;have I:=init_tuple_lookup;have ab:=madeHere_tuple;have hT:Shared.TypeIs ⟨hp,g,d,tk,os⟩ (.ref r) "range":=⟨_,C,rfl⟩;wp_walk using wpAny_loadPart' C,wpAny_typeOf hT,oX (A:=A.in1) (show A.in1.handled=none from hh) C o hn (show n<=2^24 by omega);intro h' J acc hk hi;show wpAny _ _ (Builtin.Tuple.tupleExact acc.toList.toArray >>=λ v=>ret v) _ _ _;unfold Builtin.Tuple.tupleExact;have hz:acc.size<=sizeLine:=by rw[hi.1,sizeLine_eq];omega
  refine wpAny_bind (wpAny_newObj_type ?_ (by show acc.toList.toArray.size<=sizeLine;simpa using hz));refine wpAny_pure ⟨_,rfl,?_⟩;have e:acc.toList.toArray=acc:=by simp
  rw[e];exact h h' J acc hk hi
section
variable {X:Cx} {a b e:Expr} {fs:M (List D)} {pos p:Pos}
theorem sL(U:X.calm=true):du X (.type "tuple") (λ xs H Q=> ∃q j,xs=[.ref q]/\H q=some (.rng 0 j)/\j<100000/\ -(2^62)<=j/\ ∀l,H l=none->Q (.ref l) (upd H l (.tup ((List.range j.toNat).map λ(i:Nat)=>V.int (0+i))))):=by
 intro pins s σ H xs us Q I r h;obtain⟨q,j,rfl,hq,hj,C,k⟩:=h;obtain⟨u,rfl,rx⟩:=r.one;cases rx;obtain⟨t,u',v,hr⟩:=I.hok q _ hq;refine callType_new F.called_tuple (by decide) (F.typeCall_tuple_1 _) (F.newCall_tuple_1 _) (λ obj=>F.args_object_init_2 obj _) F.entry_tuple_new
  (jZ q (n:=j.toNat) (small_one (by omega) (by omega) C (by omega)) (by rw[rangeSize_one];split <;> omega) (by omega)) ⟨I.ok.hd U,hr,λ h' tk acc kp hi=>⟨⟨_,Heap.get?_push_size _ rfl,rfl⟩,?_⟩⟩;have J:Inv X pins σ H { s with heap:=h',toks:=tk }:=I.kept kp;refine⟨.ref h'.objs.size,_,J.laid (t':=tk) (λ b o e=>Heap.get?_push_of_some _ e) (Nat.le_refl _) (show d8 X.prog X.w _ _ _ (.tup _)from⟨?_,acc.toList,nR hi,by simpa using vY.new _ _⟩),rfl,k _ (J.hok.fresh (Nat.le_refl _))⟩;have:100000<sizeLine:=by decide
 grind
theorem yT{p2 C:Pos}(I:X.mg "tuple"=none)(J:X.mg "range"=none)(ha:DA X [a] fs)(U:Gl X "tuple":=by rfl)(aa:Gl X "range":=by rfl)(hc:X.calm=true:=by rfl)(hs:starEach [a] X.env=[(false,eval a X.env)]:=by rfl):
  DE X (.Call (.Name "tuple" p) [.Call (.Name "range" p2) [a] [] C] [] pos) (do let xs<- mC iB fs;pure (.tup xs)):=
 dj (fK (sL hc) U I (by decide+kernel) (bu (pA aa J ha hs) da) (by decide) (by decide) rfl rfl) λ σ H Q ⟨c,δ,S,T,d,ae,s,e,k⟩=>by
  obtain⟨xs,af,e0,e⟩:=bind_some e;obtain⟨rfl,rfl⟩:=aZ e;obtain⟨ds,ab,e1,e⟩:=bind_some e0;obtain⟨o,rfl⟩:=bc e;refine⟨c,δ,S,T,ds,ab,s,e1,λ vs H1 l s1=>?_⟩;unfold iB at o;split at o
  .rename_i j;split at o;. rename_i hj;cases o;obtain⟨v,rfl,r⟩:=tK (s1.st.left l);cases r.int;refine⟨j,rfl,λ q hq=>⟨q,j,rfl,bz,hj.1,hj.2,λ m hm=>?_⟩⟩;have s2:=(s1.drop l).grow (fT hq (.rng 0 j));exact k _ _ ((s2.stk (qT.append s2.st)).newTup (qT (H:=H)).length hm)
   .cases o
  .cases o
end
section
variable {X:Cx} {a b e:Expr} {fa:M D} {pos p:Pos}
inductive Ty where
 | int | bool | tup | lst | str
noncomputable def Ty.name:Ty->String
 | .int=>"int"
 | .bool=>"bool"
 | .tup=>"tuple"
 | .lst=>"list"
 | .str=>"str"
noncomputable def qY:Ty->D->Option Bool
 | .int,.int _=>some true
 | .int,.bl _=>some true
 | .bool,.bl _=>some true
 | .tup,.tup _=>some true
 | .lst,.lst _=>some true
 | .str,.str _=>some true
 |_,_=>some false
theorem dictAt {a:Addr} (I:Inv X pins σ H s) (h:H a=some (mX a)):∃ o,s.heap.get? a=some o∧o.cls=.type "dict":= by
 obtain ⟨⟨_,o,_,h1,h2,_⟩,_⟩:=I.hok a _ h
 grind
theorem NR{σ:St}{H:Hp}{s:Shared}{a:Addr}{kvs:List (Int×Int)}(I:Inv X pins σ H s)(h:H a=some (FY kvs)): ∃o,s.heap.get? a=some o/\o.cls= .type "dict":=by obtain⟨_,_,vs,_,o,_,_,C,J,_⟩:=(show d8 X.prog X.w H s.heap a (FY kvs)from I.hok a _ h);exact⟨o,C,J.1⟩
theorem Nj{σ:St}{H:Hp}{s:Shared}{a:Addr}{kvs:List ((Int×Int)×Int)}(I:Inv X pins σ H s)(h:H a=some (Eu kvs)): ∃o,s.heap.get? a=some o/\o.cls= .type "dict":=by obtain⟨_,_,xs,_,o,_,_,C,J,_⟩:=(show d8 X.prog X.w H s.heap a (Eu kvs)from I.hok a _ h);exact⟨o,C,J.1⟩
theorem DN:du X (.builtin "isinstance") (λ xs H Q=> ∃(Hh:Hp) (d:D) (v:V) (T:Ty) (k:Bool),xs=[v,.ty T.name]/\(∀b o,Hh b=some o->H b=some o)/\R Hh d v/\qY T d=some k/\Q (.bl k) H):=by intro pins s σ H xs us Q I r h;obtain⟨Hh,d,v,T,k,rfl,m,rd,ek,q⟩:=h;obtain⟨u,z,rfl,ru,rz⟩:=r.two;cases rz;have fin: ∀tk,EP X pins σ Q (.bool k) { s with toks:=tk }:= λ tk=>⟨.bl k,H,I.tok _,rfl,q⟩;have U:EP X pins σ Q (.bool k) s:=⟨.bl k,H,I,rfl,q⟩;cases d with
 |non=>
  cases rd.non;cases ru;cases T <;> cases ek;. exact IsiPair.NoneType_int (fin _)
  .exact IsiPair.NoneType_bool (fin _)
  .exact IsiPair.NoneType_tuple (fin _)
  .exact IsiPair.NoneType_list (fin _)
  .exact IsiPair.NoneType_str (fin _)
 |int i=>
  cases rd.int;obtain⟨t,rfl⟩:=ru;cases T <;> cases ek;. exact IsiPair.int_int U
  .exact IsiPair.int_bool (fin _)
  .exact IsiPair.int_tuple (fin _)
  .exact IsiPair.int_list (fin _)
  .exact IsiPair.int_str (fin _)
 |bl i=>
  cases rd.bl;cases ru;cases T <;> cases ek;. exact IsiPair.bool_int U
  .exact IsiPair.bool_bool U
  .exact IsiPair.bool_tuple (fin _)
  .exact IsiPair.bool_list (fin _)
  .exact IsiPair.bool_str (fin _)
 |str i=>
  cases rd.str;obtain⟨t,rfl⟩:=ru;cases T <;> cases ek;. exact IsiPair.str_int (fin _)
  .exact IsiPair.str_bool (fin _)
  .exact IsiPair.str_tuple (fin _)
  .exact IsiPair.str_list (fin _)
  .exact IsiPair.str_str U
 |tup ds=>
  obtain⟨q',vs,rfl,h1,h2⟩:=rd.tup;cases ru;obtain⟨its,_,⟨o,C,J,_⟩,_⟩:=I.tuple (.of (m _ _ h1));cases T <;> cases ek;. exact IsiPair.tuple_int C J (fin _)
  .exact IsiPair.tuple_bool C J (fin _)
  .exact IsiPair.tuple_tuple C J U
  .exact IsiPair.tuple_list C J (fin _)
  .exact IsiPair.tuple_str C J (fin _)
 |lst ds=>
  obtain⟨q',vs,rfl,h1,h2⟩:=rd.lst;cases ru;obtain⟨its,_,pl,_⟩:=I.list (.inl (Rd.mono m h1));obtain⟨o,C,J,_⟩:=pl.isList;cases T <;> cases ek;. exact IsiPair.list_int C J (fin _)
  .exact IsiPair.list_bool C J (fin _)
  .exact IsiPair.list_tuple C J (fin _)
  .exact IsiPair.list_list C J U
  .exact IsiPair.list_str C J (fin _)
 |dct=>
  obtain⟨q',rfl,h1⟩:=rd.dct;cases ru;obtain⟨o,C,J⟩:=dictAt I (m _ _ h1);cases T <;> cases ek;. exact IsiPair.dict_int C J (fin _)
  .exact IsiPair.dict_bool C J (fin _)
  .exact IsiPair.dict_tuple C J (fin _)
  .exact IsiPair.dict_list C J (fin _)
  .exact IsiPair.dict_str C J (fin _)
 |dic kvs=>
  obtain⟨q',rfl,h1⟩:=rd.dic;cases ru;obtain⟨o,C,J⟩:=NR I (m _ _ h1);cases T <;> cases ek;. exact IsiPair.dict_int C J (fin _)
  .exact IsiPair.dict_bool C J (fin _)
  .exact IsiPair.dict_tuple C J (fin _)
  .exact IsiPair.dict_list C J (fin _)
  .exact IsiPair.dict_str C J (fin _)
 |dip kvs=>
  obtain⟨q',rfl,h1⟩:=rd.dip;cases ru;obtain⟨o,C,J⟩:=Nj I (m _ _ h1);cases T <;> cases ek;. exact IsiPair.dict_int C J (fin _)
  .exact IsiPair.dict_bool C J (fin _)
  .exact IsiPair.dict_tuple C J (fin _)
  .exact IsiPair.dict_list C J (fin _)
  .exact IsiPair.dict_str C J (fin _)
noncomputable def kj(T:Ty)(fa:M D):M D:=do
 let d<- fa
 let k<- lift (qY T d)
 pure (.bl k)
theorem NF(T:Ty){y:Str}{py:Pos}(o:Gl X y)(hm:X.mg y=none)(C:bootBuiltins y=some (.type T.name))(I:y≠"__name__":=by decide)(hd:(y==("__debug__":Str))=false:=by decide):PE X (.Name y py) (tC (.ty T.name)):=yj o hm C rfl I hd
theorem iZ(T:Ty){y:Str}{py:Pos}(o:X.mg "isinstance"=none)(C:X.mg y=none)(ha:DE X a fa)(hv:bootBuiltins y=some (.type T.name):=by decide+kernel)(I:Gl X "isinstance":=by rfl)(J:Gl X y:=by rfl)(hn:y≠"__name__":=by decide)(hd:(y==("__debug__":Str))=false:=by decide)
  (he:starEach [a,.Name y py] X.env=(false,eval a X.env)::starEach [.Name y py] X.env:=by rfl):DE X (.Call (.Name "isinstance" p) [a,.Name y py] [] pos) (kj T fa):=
 dj (fo DN I o (by decide+kernel) (bu ha (bu (NF T J C hv hn hd) da) he) (by decide) (by decide) he rfl) λ σ H Q ⟨c,δ,S,TT,d,aa,s,e,k⟩=>by obtain⟨x,U,e1,e⟩:=bind_some e;obtain⟨b,ab,e2,e⟩:=bind_some e;obtain⟨e3,rfl⟩:=bc e2;obtain⟨rfl,rfl⟩:=aZ e;exact⟨c,δ,S,TT,x,U,s,e1,λ v H1 s1=>⟨_,x,v,T,b,rfl,bK,s1.st.head,e3,k _ _ (s1.stk (.cons .mkB s1.st.tail))⟩⟩
end
noncomputable def yD(x:Int):List Int->List Int
 |[]=>[x]
 |y::r=>if x<=y then x::y::r else y::yD x r
noncomputable def d9:List Int->List Int
 |[]=>[]
 |x::r=>yD x (d9 r)
theorem kJ(x:Int): ∀l,(yD x l).Perm (x::l)
 |[]=>List.Perm.refl _
 |y::r=>by
  unfold yD;split;. rfl
  .exact((kJ x r).cons y).trans (List.Perm.swap _ _ _)
theorem fL: ∀l,(d9 l).Perm l
 |[]=>List.Perm.refl _
 |x::r=>(kJ x _).trans ((fL r).cons x)
theorem xX(x:Int): ∀l:List Int,l.Pairwise (. <= .)->(yD x l).Pairwise (. <= .)
 |[],_=>List.pairwise_singleton _ _
 |y::r,h=>by
  obtain⟨o,C⟩:=List.pairwise_cons.mp h;unfold yD;split
  .rename_i hx;refine List.pairwise_cons.mpr ⟨λ z hz=>?_,h⟩;rcases List.mem_cons.mp hz with e|hz
   .rw[e];exact hx
   .exact Int.le_trans hx (o z hz)
  .refine List.pairwise_cons.mpr ⟨λ z hz=>?_,xX x r C⟩;rcases List.mem_cons.mp ((kJ x r).mem_iff.mp hz)with e|hz
   .omega
   simp_all
theorem nj: ∀l,(d9 l).Pairwise (. <= .)
 |[]=>List.Pairwise.nil
 |x::r=>xX x _ (nj r)
theorem pV: ∀{a b:List Int},a.Perm b->a.Pairwise (. <= .)->b.Pairwise (. <= .)->a=b
 |[],b,p,_,_=>(List.nil_perm.mp p).symm
 |x::a,[],p,_,_=>absurd p (by simp)
 |x::a,y::b,p,o,C=>by
  obtain⟨a1,a2⟩:=List.pairwise_cons.mp o;obtain⟨b1,I⟩:=List.pairwise_cons.mp C;have e:x=y:=by have hx:x∈y::b:=p.mem_iff.mp List.mem_cons_self;have J:y∈x::a:=p.mem_iff.mpr List.mem_cons_self;grind
  subst e;rw[pV ((List.perm_cons x).mp p) a2 I]
theorem Cm(p:a.Perm b)(h:a.Pairwise (. <= .)):a=d9 b:=pV (p.trans (fL b).symm) h (nj b)
inductive Qd (K:PySem.W.Frag) (f:M (List D)) (σ:St) (H:Hp) (Q:VK):Prop
 | mk (c:Ct) (δ:DS) (S:List D) (T:List V) (xs:List D) (δ':DS) (s:Sl c δ S σ T H) (e:f δ=some (xs,δ')) (q:∀ p vs H',vs.length=xs.length->(jr K H' p vs ∨ gm K H' p vs)->Sl c δ' (xs ++ S) σ (vs ++ T) H' -> Q (.ref p) H'):Qd K f σ H Q
noncomputable abbrev DQ(X:Cx)(e:Expr)(f:M (List D)):Prop:=PE X e (Qd X.K f)
section
variable {X:Cx} {b e:Expr} {fa:M D} {fq:M (List D)} {pos p:Pos} {x:Str}
theorem xI(h:DE X e fa):DQ X e (do let x<- fa;lift (lP x)):=dj h λ σ H Q ⟨c,U,S,T,xs,aa,s,e,k⟩=>by obtain⟨d,C,e1,e⟩:=bind_some e;obtain⟨I,rfl⟩:=bc e;refine⟨c,U,S,T,d,C,s,e1,λ v H' s'=>?_⟩;cases d with
 |tup ds=>cases I;obtain⟨q,vs,rfl,J,o⟩:=s'.st.head.tup;exact k q vs H' o.length (.inr (.of (bK _ _ J))) (s'.stk (o.append s'.st.tail))
 |lst ds=>cases I;obtain⟨q,vs,rfl,J,o⟩:=s'.st.head.lst;exact k q vs H' o.length (.inl (.inl (Rd.mono bK J))) (s'.stk (o.append s'.st.tail))
 |_=>cases I
theorem Inv.kd{σ:St}{H:Hp}{s:Shared}{h':Heap}{t':Nat}{d':Drawn}(I:Inv X pins σ H s)(k: ∀b u,s.heap.get? b=some u->h'.get? b=some u):Inv X pins σ H { s with heap:=h',toks:=t',drawn:=d' }:=by have o:=I.kept (t':=t') k;exact⟨o.ok,o.os,o.bare,o.base,o.loc,o.cell,o.free,o.freeC,o.pin,o.hok,o.len⟩
theorem i_: ∀{us:List Value},PyProof.Rows.IntsAre us ns->Vals (ns.map V.int) us:=by induction ns with
 |nil=>intro us h;cases h;exact .nil
 |cons n ns o=>intro us h;cases h with
  |cons _ t h=>exact .cons ⟨t,rfl⟩ (o h)
theorem vD{σ:St}{H:Hp}{s:Shared}{ns ms:List Int}{Q:VK}{C h':Heap}{tk:Nat}{d:Drawn}{out:List Value}{e:Nat}(I:Inv X pins σ H s)(k: ∀b o,s.heap.get? b=some o->C.get? b=some o)(k2: ∀b o,C.get? b=some o->h'.get? b=some o)
  (hg:h'.get? C.objs.size=some { cls:= .type "list",data:= .seq out.toArray e })(hi:PyProof.Rows.IntsAre out ms)(J:ms.Perm ns)(hu:ms.Pairwise (. <= .))(hl:ns.length<64)(q: ∀l,H l=none->Q (.ref l) (upd H l (.lst ((d9 ns).map V.int)))):
  EP X pins σ Q (.ref C.objs.size) { s with heap:=h',toks:=tk,drawn:=d }:=by have U:Inv X pins σ H { s with heap:=C,toks:=tk,drawn:=d }:=Inv.kd I k;have em:=Cm J hu;refine⟨.ref C.objs.size,_,U.laid (t':=tk) (o:= .lst ((d9 ns).map V.int)) k2 (Nat.le_refl _) ⟨?_,out,e,em▸i_ hi,hg⟩,rfl,q _ (U.hok.fresh (Nat.le_refl _))⟩;rw[List.length_map,<- em,J.length_eq,sizeLine_eq];omega
theorem tx:du X (.builtin "sorted") (λ xs H Q=> ∃p ns,xs=[.ref p]/\(jr X.K H p (ns.map V.int)\/gm X.K H p (ns.map V.int))/\ns.length<64/\ ∀l,H l=none->Q (.ref l) (upd H l (.lst ((d9 ns).map V.int)))):=by
 intro pins s σ H xs us Q I r h;obtain⟨p,ns,rfl,C,hl,q⟩:=h;obtain⟨u,rfl,ru⟩:=r.one;cases ru;refine tU (ns:=ns) (λ A' Q' E' hA J=>?_) hl λ h1 h' tk d out ms e k k2 hg hi hp hu=>vD I k k2 hg hi hp hu hl q;rcases C with C|C
 .obtain⟨its,U,pl,hz⟩:=I.list C;obtain⟨o,ho,hc,n,hd⟩:=pl.isList;exact wpAny_collect_seq p (.inl rfl) ho hc hd (λ h' k=>J _ ns h' s.toks s.drawn (by simpa using intsAre_of U) (List.Perm.refl _) k) (by rw[List.size_toArray,<- U.length];omega)
 .obtain⟨its,U,⟨o,ho,hc,n,hd⟩,hz⟩:=I.tuple C;exact wpAny_collect_seq p (.inr rfl) ho hc hd (λ h' k=>J _ ns h' s.toks s.drawn (by simpa using intsAre_of U) (List.Perm.refl _) k) (by rw[List.size_toArray,<- U.length];exact hz)
noncomputable def dN:List D->Option (List Int)
 |[]=>some []
 | .int i::r=>(dN r).map (i:: .)
 |_=>none
theorem gj: ∀{ds:List D}{vs:List V}{ns:List Int},Rs H ds vs->dN ds=some ns->vs=ns.map V.int
 |[],vs,ns,h,e=>by cases e;exact h.inv0
 |d::ds,vs,ns,h,e=>by obtain⟨v,r,ev,o,C⟩:=h.inv;cases d with
  |int b=>unfold dN at e;cases q:dN ds with
   |none=>simp_all
   |some I=>rw[q]at e;cases e;rw[ev,o.int,gj C q];rfl
  |_=>cases e
theorem kE: ∀(ns:List Int),Rs H (ns.map D.int) (ns.map V.int)
 |[]=> .nil
 |n::ns=> .cons .mkI (kE ns)
noncomputable def sortI(xs:List D):Option (List D):=match dN xs with
 |some ns=>if ns.length<64 then some ((d9 ns).map D.int)else none
 |none=>none
noncomputable def mQ{α:Type}(g:List D->Option α)(f:M (List D)):M α:=do
 let xs<- f
 lift (g xs)
theorem kx(hm:X.mg "sorted"=none)(h:DQ X e fq)(J:Gl X "sorted":=by rfl)(he:starEach [e] X.env=[(false,eval e X.env)]:=by rfl):DF X (.Call (.Name "sorted" p) [e] [] pos) (mQ sortI fq):=
 dj (fo tx J hm PyProof.Rows.boot_sorted (bu h da he) (by decide) (by decide) he rfl) λ σ H Q ⟨c,U,S,T,xs,aa,s,e,k⟩=>by
  obtain⟨ds,I,e1,e⟩:=bind_some e;obtain⟨C,rfl⟩:=bc e;refine⟨c,U,S,T,ds,I,s,e1,λ q vs H1 l hq s1=>?_⟩;unfold sortI at C;split at C
  .rename_i ns en;split at C
   .rename_i hn;cases C;have ev:=gj (s1.st.left l) en;subst ev;refine⟨q,ns,rfl,hq,hn,λ m hm=>?_⟩;obtain⟨f1,f2,f3⟩:=s1.fresh hm;have s2:=(s1.drop l).hide (o:= .lst ((d9 ns).map V.int)) hm;exact k m _ _ (by simp) (s2.stk ((kE _).append s2.st)) f1 f2 f3
   .cases C
  grind
noncomputable def K_(xs ys:List D):Option (List D):=if xs.length+ys.length<=100000 then some (xs++ys)else none
end
inductive Hn where
 | th (x:D) | ls (j:Nat)
noncomputable def K2(c:Ct)(o:DS)(S:List D)(σ:St)(T:List V)(H:Hp)(v:V):Hn->Prop
 | .th d=>Sl c o (d::S) σ (v::T) H
 | .ls i=>Sl c o S σ T H/\σ[i]?=some (some v)
inductive Il (f:M Hn) (σ:St) (H:Hp) (Q:VK):Prop
 | mk (c:Ct) (δ:DS) (S:List D) (T:List V) (h:Hn) (δ':DS) (s:Sl c δ S σ T H) (e:f δ=some (h,δ')) (q:∀ v H',K2 c δ' S σ T H' v h->Q v H'):Il f σ H Q
noncomputable abbrev DH(X:Cx)(e:Expr)(f:M Hn):Prop:=PE X e (Il f)
noncomputable def Hn.ds:Hn->List D
 | .th z=>[z]
 | .ls _=>[]
noncomputable def Hn.vs(v:V):Hn->List V
 | .th _=>[v]
 | .ls _=>[]
theorem Hn.len(v:V)(h:Hn):(h.vs v).length=h.ds.length:=by cases h <;> rfl
noncomputable def rdH(h:Hn):M D:= λ o=>match h with
 | .th d=>some (d,o)
 | .ls i=>match o[i]? with
  |some (.ow _ xs)=>some (.lst xs,o)
  |_=>none
theorem K2.sl(k:K2 c o S σ T H v h):Sl c o (h.ds++S) σ (h.vs v++T) H:=by cases h with
 |th d=>exact k
 |ls i=>exact k.1
theorem tw{S:List D}{σ:St}{T:List V}{H:Hp}{v:V}{h:Hn}{d:D}(s:Sl c o S σ T H)(hs: ∀d',h= .th d'->R (gC c o σ H) d' v)(U: ∀i,h= .ls i->σ[i]?=some (some v))(e:rdH h o=some (d,C)):o=C/\R H d v/\
  (∀xs,d= .lst xs-> ∃p vs,v= .ref p/\Rd H p (.lst vs)/\Rs (gC c o σ H) xs vs)/\((∀xs,d≠ .lst xs)->R (gC c o σ H) d v):=by cases h with
 |th d0=>cases e;have r:=hs d rfl;refine⟨rfl,r.mono bK,λ xs ex=>?_,λ _=>r⟩;subst ex;obtain⟨p,vs,ev,h1,h2⟩:=r.lst;exact⟨p,vs,ev,Rd.mono bK h1,h2⟩
 |ls i=>
  unfold rdH at e;dsimp only at e;split at e;. rename_i b xs hx;cases e;obtain⟨p,vs,ev,I,J⟩:=s.own hx;rw[U i rfl]at ev;cases ev;exact⟨rfl,.mkL (.inl I) (J.mono bK),λ ys ey=>by cases ey;exact⟨p,vs,rfl,.inl I,J⟩,λ z=>absurd rfl (z xs)⟩
  grind
section
variable {X:Cx} {a b e:Expr} {fa fb:M D} {ha' hb':M Hn} {fs:M (List D)} {pos p:Pos} {x:Str}
theorem jS(h:DE X e fa):DH X e (do let x<- fa;pure (.th x)):=dj h λ σ H Q ⟨c,C,S,T,h,I,s,e,k⟩=>by obtain⟨d,o,J,e⟩:=bind_some e;obtain⟨rfl,rfl⟩:=aZ e;exact⟨c,C,S,T,d,o,s,J,λ v H' s'=>k v H' s'⟩
noncomputable def CP(i:Nat):M Hn:=do
 let _<- bO i
 pure (.ls i)
theorem K9(i:Nat){px:Pos}(C:X.N[i]?=some x:=by rfl)(I:u5 X.env.scope x:=by first | exact Or.inl rfl | exact Or.inr (Or.inl rfl) | exact Or.inr (Or.inr rfl))(hd:(x==("__debug__":Str))=false:=by decide)(o:(x==("__classdict__":Str))=false:=by decide):
  DH X (.Name x px) (CP i):=dj (dP C I hd o) λ σ H Q ⟨c,δ,S,T,h,J,s,e,k⟩=>by obtain⟨xs,U,e1,e⟩:=bind_some e;obtain⟨rfl,rfl⟩:=aZ e;obtain⟨⟨b,hi⟩,rfl⟩:=cy e1;obtain⟨q,vs,ev,hq,hx⟩:=s.own hi;exact⟨_,ev,k _ H ⟨s,ev⟩⟩
noncomputable def y3{α:Type}(g:D->D->Option α)(fa fb:M Hn):M α:=do
 let o<- fa
 let C<- fb
 let x<- rdH o
 let y<- rdH C
 lift (g x y)
structure Qi (c:Ct) (δ:DS) (S:List D) (σ:St) (T:List V) (H:Hp) (x y:D) (v u:V):Prop where
 sl:Sl c δ S σ T H
 rx:R H x v
 ry:R H y u
 lx:∀ xs,x=.lst xs->∃ p vs,v=.ref p∧Rd H p (.lst vs)∧Rs (gC c δ σ H) xs vs
 ly:∀ xs,y=.lst xs->∃ p vs,u=.ref p∧Rd H p (.lst vs)∧Rs (gC c δ σ H) xs vs
theorem MH{g:D->D->Option α}{W:Ct->DS->List D->St->List V->VK->α->Prop}
  (hr: ∀c o S σ T H x y v u z Q,Qi c o S σ T H x y v u->g x y=some z->W c o S σ T Q z->r v u H Q):
  ∀σ H Q,(∃c o S T z C,Sl c o S σ T H/\y3 g ha' hb' o=some (z,C)/\W c C S σ T Q z)->xu r (Il ha') (Il hb') σ H Q:= λ σ H Q ⟨c,o,S,T,z,C,s,e,k⟩=>by obtain⟨J,U,e1,e⟩:=bind_some e;obtain⟨h2,I,e2,e⟩:=bind_some e;obtain⟨x,aa,e3,e⟩:=bind_some e;obtain⟨y,ab,e4,e⟩:=bind_some e;obtain⟨e5,rfl⟩:=bc e;refine⟨c,o,S,T,J,U,s,e1,λ v H1 k1=>?_⟩;refine⟨c,U,J.ds++S,J.vs v++T,h2,I,k1.sl,e2,λ u H2 k2=>?_⟩;have s2:=k2.sl;have s3:Sl c I S σ T H2:=(s2.drop (Hn.len u h2)).drop (Hn.len v J);obtain⟨rfl,r1,l1,_⟩:=tw s3 (v:=v) (h:=J) (λ d' ed=>by subst ed;exact(s2.drop (Hn.len u h2)).st.head) (λ i ei=>by subst ei;exact k1.2) e3;obtain⟨rfl,r2,l2,_⟩:=tw s3 (v:=u) (h:=h2) (λ d' ed=>by subst ed;exact s2.st.head) (λ i ei=>by subst ei;exact k2.2) e4;exact hr c I S σ T H2 x y v u z Q ⟨s3,r1,r2,l1,l2⟩ e5 k
noncomputable def ye:R2:= λ x y H Q=> ∃l b xs zs,x= .ref l/\y= .ref b/\Rd H l (.lst xs)/\Rd H b (.lst zs)/\xs.length+zs.length<=sizeLine/\ ∀p,H p=none->Q (.ref p) (upd H p (.lst (xs++zs)))
theorem l6:gD X (binaryOp .Add) ye:=by intro pins s σ H x y v u Q I J U h;obtain⟨l,b,xs,zs,rfl,rfl,hH,hB,hz,q⟩:=h;cases J;cases U;obtain⟨z,its,n,r,e⟩:=hH.ok I.hok;obtain⟨z2,o,n2,C,e2⟩:=hB.ok I.hok;refine PySem.P.add_list e e2 ?_ (by rw[List.size_toArray,List.size_toArray,<- r.length,<- C.length];omega);rw[show its.toArray++o.toArray=(its++o).toArray by simp];exact⟨.ref _,_,I.lnew (t':=s.toks) (r.append C) (by rw[List.length_append];exact hz),rfl,q _ I.fresh⟩
noncomputable def uw:D->D->Option (List D)
 | .lst xs,.lst ys=>K_ xs ys
 |_,_=>none
theorem qH(ha:DH X a ha')(hb:DH X b hb'):DF X (.BinOp a .Add b pos) (y3 uw ha' hb'):=dj (t_ l6 ha hb) λ σ H Q ⟨c,U,S,T,z,o,s,e,k⟩=>by refine MH (W:= λ c o S σ T Q z=> ∀l vs H',vs.length=z.length->Sl { c with Z:=upd c.Z l (.lst vs) } o (z++S) σ (vs++T) H'->c.Z l=none->l∉c.B->c.H0 l=none->Q (.ref l) H') (λ c U S σ T H x y v u z Q t I w=>?_) σ H Q ⟨c,U,S,T,z,o,s,e,k⟩;cases x with
 |lst xs=>cases y with
  |lst ys=>
   have C:(if xs.length+ys.length<=100000 then some (xs++ys)else none)=some z:=I;split at C
   .cases C;obtain⟨p1,vs,rfl,a1,a2⟩:=t.lx xs rfl;obtain⟨p2,us,rfl,b1,J⟩:=t.ly ys rfl;have hl:100000<sizeLine:=by decide
    refine⟨p1,p2,vs,us,rfl,rfl,a1,b1,by rw[a2.length,J.length];omega,λ q hq=>?_⟩;have s1:=t.sl.stk ((a2.append J).append t.sl.st);obtain⟨f1,f2,f3⟩:=s1.fresh hq;exact w q _ _ (by rw[List.length_append,List.length_append,a2.length,J.length]) (s1.hide hq) f1 f2 f3
   grind
  |_=>cases I
 |_=>cases I
noncomputable def Mw(neg:Bool)(x y:D):Option D:=if jB x y=true then(dI 9 x y).map λ b=> .bl (if neg then !b else b)else cQ neg x y
theorem Es{x y:D}{v u:V}{z:D}{Q:VK}{neg:Bool}{r:R2}(t:Qi c I S σ T H x y v u)(o:Mw neg x y=some z)(w: ∀v H',Sl c I (z::S) σ (v::T) H'->Q v H')
  (hs: ∀(b:Bool),jB x y=true->dI 9 x y=some b->Q (.bl (if neg then !b else b)) H->r v u H Q)(hf:ke v u=true->Q (.bl (if neg then !decide (v=u)else decide (v=u))) H->r v u H Q):r v u H Q:=by
 unfold Mw at o;split at o;. rename_i J;cases q:dI 9 x y with
  |none=>rw[q]at o;cases o
  |some b=>rw[q]at o;cases o;exact hs b J q (w _ _ (t.sl.stk (.cons .mkB t.sl.st)))
 .unfold cQ at o;split at o
  .rename_i w1 z1 U e2;split at o
   .rename_i C;cases o;obtain⟨rfl,_⟩:=eZ t.rx U;obtain⟨rfl,_⟩:=eZ t.ry e2;exact hf C (w _ _ (t.sl.stk (.cons .mkB t.sl.st)))
   .cases o
  grind
theorem Qu(w: ∀σ H Q,tM (y3 g ha' hb') σ H Q->xu r (Il ha') (Il hb') σ H Q): ∀σ H Q,Eb (y3 g ha' hb' >>= dD) σ H Q->uZ (xu r (Il ha') (Il hb')) σ H Q:= λ σ H Q ⟨c,C,S,T,d,I,s,e,k⟩=>by obtain⟨x,o,J,e⟩:=bind_some e;obtain⟨rfl,rfl⟩:=jN e;exact w σ H _ ⟨c,C,S,T,.bl d,o,s,J,λ v H' s'=>⟨d,s'.st.head.bl,k _ s'.pop⟩⟩
theorem Kz(I:cX k X.A)(J:DH X a ha')(U:DH X b hb'):DT X (.Compare a [.NotEq] [b] pos) (y3 (Mw true) ha' hb' >>= dD):=Az (q0 (Dv (nY I)) J U (vv _)) (Qu λ σ H Q ⟨c,C,S,T,z,o,s,e,k⟩=>
 MH (W:= λ c o S σ T Q z=> ∀v H',Sl c o (z::S) σ (v::T) H'->Q v H') (λ c C S σ T H x y v u z Q t eg w=>Es t eg w (λ b hs he q=> .inr ⟨H,x,y,b,λ _ _ h=>h,t.rx,t.ry,hs,he,q⟩) λ hs q=> .inl ⟨hs,q⟩) σ H Q ⟨c,C,S,T,z,o,s,e,k⟩)
noncomputable def vK(fa:M Hn)(fs:M (List D)):M (List D):=do
 let h<- fa
 let xs<- fs
 let x<- rdH h
 pure (x::xs)
noncomputable def flatOnly(d:D):Option D:=match flat d with
 |some _=>some d
 |none=>none
noncomputable def Qm(n:Nat)(mf:List D->Option D)(ds:List D):Option D:=if ds.length=n then(mf ds).bind flatOnly else none
noncomputable def cutD(xs:List D)(lo C:Option Int):List D:=(xs.drop (HT.sIx xs.length 0 lo)).take (HT.sIx xs.length xs.length C-HT.sIx xs.length 0 lo)
theorem Cz(h:Rs H ds vs)(lo I:Option Int):Rs H (cutD ds lo I) (rA vs lo I):=by
 unfold cutD rA;rw[h.length];have U: ∀(n:Nat){ds:List D}{vs:List V},Rs H ds vs->Rs H (ds.drop n) (vs.drop n):=by intro n;induction n with
  |zero=>intro ds vs h;exact h
  |succ n o=>intro ds vs h;cases ds with
   |nil=>rw[h.inv0];exact .nil
   |cons d ds=>obtain⟨v,r,e,J,C⟩:=h.inv;subst e;exact o C
 have tk: ∀(n:Nat){ds:List D}{vs:List V},Rs H ds vs->Rs H (ds.take n) (vs.take n):=by intro n;induction n with
  |zero=>intro ds vs h;exact .nil
  |succ n o=>intro ds vs h;cases ds with
   |nil=>rw[h.inv0];exact .nil
   |cons d ds=>obtain⟨v,r,e,J,C⟩:=h.inv;subst e;exact .cons J (o C)
 grind
theorem tF{items:Array Value}{vl vu:Value}{lo hi:Option Int}{prog:Program}{w:World}{A:Around}{E:Value->Shared->Prop}{s:Shared}{Q:Value->Shared->Prop}(C:PyProof.Rows.IsTup s.heap t items)(hs:s.heap.IsSliceOf sl vl vu .none)(pl:IsPart vl lo)(pu:IsPart vu hi)
  (hw:HT.sIx items.size 0 lo=0/\HT.sIx items.size items.size hi=items.size)(h:Q (.ref t) s):wpAny (model prog w) A (getItem (.ref t) (.ref sl)) Q E s:=by
 obtain⟨os,hos,hcs,hds⟩:=id hs;have hTs:s.TypeIs (.ref sl) "slice":=⟨os,hos,hcs⟩;unfold getItem;try with_reducible refine wpAny_holding ?_
 refine wpAny_bind (wpAny_sequenceKey C.typeIs (by decide) ?_);refine wpAny_bind (wpAny_callSpecial?_slot (name:=Str.ofString "__getitem__") C.typeIs PyProof.Rows.slot_tuple_getitem (wpAny_call_entry PyProof.Rows.slot_tuple_getitem C.typeIs PyProof.Rows.entry_tuple_getitem ?_ (PyProof.Rows.args_tuple_getitem _ _)));show wpAny (model prog w) _ (Builtin.Tuple.tupleItemsOf (.ref t) >>= _) _ _ s;refine wpAny_bind (PyProof.Rows.tupleItemsOf_ C (wpAny_bind (wpAny_typeOf hTs ?_)));refine wpAny_bind (HT.sliceApplied_gen hs pl pu ?_);have hyes:(((HT.sIx items.size 0 lo:Nat):Int)==0&&(1:Int)==1&&(HT.sIx items.size items.size hi-HT.sIx items.size 0 lo)==items.size)=true:=by rw[hw.1,hw.2];simp
 show wpAny (model prog w) _ (if(((HT.sIx items.size 0 lo:Nat):Int)==0&&1==1&&(HT.sIx items.size items.size hi-HT.sIx items.size 0 lo)==items.size)=true then _ else _) _ _ s;rw[if_pos hyes];refine wpAny_bind ?_;refine wpAny_bind (wpAny_typeOf C.typeIs (wpAny_pure ?_));exact wpAny_bind (wpAny_rule (wpAny_bind (wpAny_pure (wpAny_pure ⟨_,rfl,wpAny_pure h⟩))))
end
section
variable {X:Cx} {pins:List (Addr × Obj)} {σ:St} {H:Hp} {s:Shared} {h':Heap}
theorem _root_.L2.Inv.turnedN{fp:List Addr}{p:Addr}{o:HO}(I:Inv X pins σ H s)(k: ∀b o,b∉fp->s.heap.get? b=some o->h'.get? b=some o)(hf: ∀b∈fp,jA X pins H b)(hp:s.heap.objs.size<=p)(new:d8 X.prog X.w (upd H p o) h' p o):
  Inv X pins σ (upd H p o) { s with heap:=h',toks:=t' }:=by
 have C:H p=none:=I.hok.fresh hp;have aa: ∀b u,H b=some u->b∉fp:= λ b u e z=>by rw[(hf b z).1]at e;cases e
 refine I.step (g':=s.gens) (d':=s.drawn) (ch:=fp) (λ b U=>?_) (λ b o _ _ J e _=>k b o J e) (λ b o _ _ J e _=>⟨o.slots,k b o J e⟩) (λ b o _ e n=>?_)
  (λ b o J e=>⟨o,k b o J e⟩) (λ b xs e=>by rw[bj (cB e C)];exact e) (λ b o u e=>by rw[bj (cB e C)];exact e) (λ b ps e=>⟨#[],by rw[bj (cB e C),e];simp⟩) (λ m hm=>?_) (λ b u e=>?_) I.bare;. obtain⟨_,f1,_,f3,f4,f5⟩:=hf b U;exact⟨f3,f1,f4,f5⟩
 .rw[bj λ z=>by subst z;exact Nat.lt_irrefl _ (Nat.lt_of_lt_of_le (Heap.lt_size e) hp)];exact n
 .obtain⟨o',es,ep,ho,r⟩:=hm;exact⟨o',es,ep,k _ o' (λ z=>(hf _ z).2.1 rfl) ho,r⟩
 .by_cases U:b=p;. subst U;rw[bz]at e;cases e;exact new
  .rw[bj U]at e;refine(I.hok b u e).stay (λ c v J q=>k c v ?_ q) (λ c q=>by rw[bj (cB q C)];exact q) (λ c xs q=>by rw[bj (cB q C)];exact q) λ c ob v q=>by rw[bj (cB q C)];exact q
   grind
theorem _root_.L2.Inv.turnedL{fp:List Addr}(I:Inv X pins σ H s)(k: ∀b o,b∉fp->s.heap.get? b=some o->h'.get? b=some o)(hf: ∀b∈fp,jA X pins H b):Inv X pins σ H { s with heap:=h',toks:=t' }:=by
 have U: ∀b u,H b=some u->b∉fp:= λ b u e z=>by rw[(hf b z).1]at e;cases e
 refine I.step (g':=s.gens) (d':=s.drawn) (ch:=fp) (λ b hb=>?_) (λ b o _ _ C e _=>k b o C e) (λ b o _ _ C e _=>⟨o.slots,k b o C e⟩) (λ _ _ _ _ n=>n)
  (λ b o C e=>⟨o,k b o C e⟩) (λ _ _ e=>e) (λ _ _ _ e=>e) (λ b ps e=>⟨#[],by rw[e];simp⟩) (λ m hm=>?_) (λ b u e=>?_) I.bare;. obtain⟨_,f1,_,f3,f4,f5⟩:=hf b hb;grind
 .obtain⟨J,es,ep,ho,r⟩:=hm;exact⟨J,es,ep,k _ J (λ z=>(hf _ z).2.1 rfl) ho,r⟩
 .refine(I.hok b u e).stay (λ c v C q=>k c v ?_ q) (λ _ q=>q) λ _ _ q=>q;grind
noncomputable def Sq(b:Bool)(K:PySem.W.Frag)(H:Hp)(q:Addr)(xs:List V):Prop:=match b with
 |true=>gm K H q xs
 |false=>jr K H q xs
theorem _root_.L2.Inv.sq(I:Inv X pins σ H s)(h:Sq b X.K H q xs): ∃its:List Value,Vals xs its/\om b s.heap q its.toArray:=by cases b with
 |true=>obtain⟨its,r,p,_⟩:=I.tuple h;exact⟨its,r,p⟩
 |false=>obtain⟨its,r,p,_⟩:=I.list h;exact⟨its,r,p.isList⟩
theorem _root_.L2.Inv.sq_inj(I:Inv X pins σ H s)(h:Sq b X.K H q xs)(h':Sq b X.K H q ys):xs=ys:=by cases b with
 |true=>exact I.tuple_inj h h'
 |false=>exact I.list_inj h h'
noncomputable def P5(K:PySem.W.Frag)(b1 o:Bool)(C I:Addr):It:=
 ⟨λ i H=> ∃xs ys x y,Sq b1 K H C xs/\Sq o K H I ys/\xs[i]?=some x/\ys[i]?=some y,
   λ i H x H'=> ∃p v u,x= .ref p/\H p=none/\H'=upd H p (.tup [v,u])/\(∀xs,Sq b1 K H C xs->xs[i]?=some v)/\ ∀ys,Sq o K H I ys->ys[i]?=some u,
   λ i H=> ∃xs ys,Sq b1 K H C xs/\Sq o K H I ys/\(xs.length<=i\/ys.length<=i)⟩
noncomputable def Zt(b1 I:Bool)(z TI TO o C J U:Addr)(k:Nat)(h:Heap):Prop:=IsZip h z TI TO .none/\IsPair h TI (.ref o) (.ref C)/\(∃a c,IsPair h TO a c)/\oH b1 h o J k/\oH I h C U k
theorem A_{pt:Pos}(b1 b2:Bool){z TI TO J U l1 l2:Addr}(D:L4 z TI TO J U l1 l2)(au:l1∉[z,TI,TO,J,U])(av:l2∉[z,TI,TO,J,U]):
  Turn P w K (.Tuple es x1 pt) (P5 K b1 b2 l1 l2) [z,TI,TO,J,U] z (Zt b1 b2 z TI TO J U l1 l2) where
 mem:=by simp
 obj:= λ i h st b C=>by
  obtain⟨s1,s2,⟨a,c,s3⟩,s4,s5⟩:=st;have af: ∀{bb:Bool}{it l:Addr},oH bb h it l i-> ∃o,h.get? it=some o/\ ∀v,o.data≠ .cell v:= λ{bb it l} q=>by cases bb with
   |true=>obtain⟨o,e,_,d⟩:=q;exact⟨o,e,λ v z=>by rw[d]at z;cases z⟩
   |false=>obtain⟨o,e,_,d⟩:=q;exact⟨o,e,λ v z=>by rw[d]at z;cases z⟩
  simp only[List.mem_cons,List.not_mem_nil,or_false]at C;rcases C with e|e|e|e|e <;> subst e
  .exact⟨_,s1,λ v q=>by cases q⟩
  .exact⟨_,s2,λ v q=>by cases q⟩
  .exact⟨_,s3,λ v q=>by cases q⟩
  .exact af s4
  .exact af s5
 keep:= λ i h h' st k=>by obtain⟨s1,s2,⟨a,c,s3⟩,s4,s5⟩:=st;exact⟨k z (by simp) _ s1,k TI (by simp) _ s2,⟨a,c,k TO (by simp) _ s3⟩,s4.at (k J (by simp)),s5.at (k U (by simp))⟩
 item:=by
  intro X hP hw hK hc i pins s σ H E I hf st hg;subst hP hw hK;obtain⟨xs,ys,x,y,aa,ab,hx,hy⟩:=hg;obtain⟨ah,r1,p1⟩:=I.sq aa;obtain⟨ai,r2,p2⟩:=I.sq ab;obtain⟨u1,e1,aj⟩:=r1.get hx;obtain⟨u2,e2,ak⟩:=r2.get hy;obtain⟨s1,s2,s3,s4,s5⟩:=st;refine B4 D ⟨s1,s2,s3,s4,s5,p1,p2⟩ (by simpa using e1) (by simpa using e2) λ h' ao hp kp=>?_;obtain⟨t1,t2,⟨a,c,t3⟩,t4,t5,_,_⟩:=ao;have aq: ∀b o,b∉[z,TI,TO,J,U]->s.heap.get? b=some o->h'.get? b=some o:= λ b o C e=>kp b o (λ hm=>C (by simp only[List.mem_cons,List.not_mem_nil,or_false]at hm|-;rcases hm with e|e|e|e <;> simp[e])) e;refine⟨.ref s.heap.objs.size,rfl,wpAny_letOwnedTupleGo_zip (s:={ s with heap:=h' }) t1 λ h2 z2 sb=>?_⟩;obtain⟨n1,n2,n3,n4,n5,n6,n7,n8,n9,aw,m1,m2,m3,m4,m5,m6,m7,m8⟩:=D.ne;have ag:z<s.heap.objs.size:=Heap.lt_size s1;have ae:IsPair h2 s.heap.objs.size u1 u2:=sb.extBut _ _ (Nat.ne_of_gt ag) hp;refine⟨.ref s.heap.objs.size,upd H s.heap.objs.size (.tup [x,y]),I.turnedN (t':=s.toks) (fp:=[z,TI,TO,J,U]) (λ b o C e=>sb.extBut _ _ (λ q=>C (by rw[q];simp)) (aq b o C e)) hf (Nat.le_refl _) ⟨by show 2<=_;decide,[u1,u2],.cons aj (.cons ak .nil),⟨_,ae,rfl,_,rfl⟩,_,ae,rfl⟩,rfl,
   ⟨_,x,y,rfl,I.fresh,rfl,λ zs hz=>by rw[I.sq_inj hz aa];exact hx,λ zs hz=>by rw[I.sq_inj hz ab];exact hy⟩,⟨z2,sb.extBut _ _ n1 t2,⟨a,c,sb.extBut _ _ n2 t3⟩,t4.at λ o e=>sb.extBut _ _ n3 e,t5.at λ o e=>sb.extBut _ _ n4 e⟩,λ b C=>?_⟩;have ar:=(hf b C).1;rw[bj λ q=>?_];. exact ar
  .have:b<s.heap.objs.size:=by
    simp only[List.mem_cons,List.not_mem_nil,or_false]at C;rcases C with e|e|e|e|e <;> subst e
    .exact ag
    .exact Heap.lt_size s2
    .obtain⟨_,_,s3⟩:=s3;exact Heap.lt_size s3
    .exact s4.lt
    .exact s5.lt
   rw[q]at this;exact Nat.lt_irrefl _ this
 done:=by intro X hP hw hK hc i pins s σ H E I hf st hg;subst hP hw hK;obtain⟨xs,ys,aa,ab,hx⟩:=hg;obtain⟨ah,r1,p1⟩:=I.sq aa;obtain⟨ai,r2,p2⟩:=I.sq ab;obtain⟨s1,s2,s3,s4,s5⟩:=st;have l1:=r1.length;have l2:=r2.length;refine GP (I.ok.hd hc) D ⟨s1,s2,s3,s4,s5,p1,p2⟩ (hx.elim (λ q=> .inl (by simp;omega)) λ q=> .inr (by simp;omega)) λ h' kp=>⟨rfl,I.turnedL (t':=s.toks) (fp:=[z,TI,TO,J,U]) (λ b o C e=>kp b o (λ hm=>C (by simp only[List.mem_cons,List.not_mem_nil,or_false]at hm|-;rcases hm with e|e|e|e <;> simp[e])) e) hf⟩
 self:= λ A i s Q E st h=>wpAny_pyIter_zip st.1 h
noncomputable def Pq(K:PySem.W.Frag)(b:Bool)(l:Addr):It:=
 ⟨λ i H=> ∃xs x,Sq b K H l xs/\xs[i]?=some x,
   λ i H x H'=> ∃p v,x= .ref p/\H p=none/\H'=upd H p (.tup [.int i,v])/\ ∀xs,Sq b K H l xs->xs[i]?=some v,
   λ i H=> ∃xs,Sq b K H l xs/\xs.length<=i⟩
noncomputable def Et(b:Bool)(e it l:Addr)(k:Nat)(h:Heap):Prop:=(∃old,IsEnum h e it k old)/\oH b h it l k
theorem Ft{s:Shared}{es:List Expr}{C}{pos:Pos}{e it T:Addr}{i:Int}{v:Value}{Q:Unit->Shared->Prop}(he:IsEnumOut s.heap e it i v T)
  (I: ∀h',(∃old,IsEnum h' e it i old)->Heap.SameBut e s.heap h'->Q () { s with heap:=h' }):wpAny (model prog w) A (letOwnedTupleGo (.Tuple es C pos) (.ref e) (.ref T)) Q E s:=by
 refine wpAny_bind (wpAny_load he ?_);dsimp only;split;. exact wpAny_setField_rec he (by simp) λ h' o J=>I h' ⟨v,o⟩ J
 grind
theorem y8(b:Bool){e it l:Addr}(aa:e≠it)(ae:l≠e)(af:l≠it):Turn P w K (.Tuple es x1 pt) (Pq K b l) [e,it] e (Et b e it l) where
 mem:=by simp
 obj:= λ i h st c hc=>by
  obtain⟨⟨old,s1⟩,s2⟩:=st;simp only[List.mem_cons,List.not_mem_nil,or_false]at hc;rcases hc with q|q <;> subst q
  .exact⟨_,s1,λ v q=>by cases q⟩
  .cases b with
   |true=>obtain⟨o,e,_,d⟩:=s2;exact⟨o,e,λ v z=>by rw[d]at z;cases z⟩
   |false=>obtain⟨o,e,_,d⟩:=s2;exact⟨o,e,λ v z=>by rw[d]at z;cases z⟩
 keep:= λ i h h' st k=>by obtain⟨⟨old,s1⟩,s2⟩:=st;exact⟨⟨old,k e (by simp) _ s1⟩,s2.at (k it (by simp))⟩
 item:=by
  intro X hP hw hK hc i pins s σ H E I hf st hg;subst hP hw hK;obtain⟨xs,x,C,hx⟩:=hg;obtain⟨ag,r1,p1⟩:=I.sq C;obtain⟨u1,e1,ah⟩:=r1.get hx;obtain⟨s1,s2⟩:=st;refine yP aa ae af ⟨s1,s2,p1⟩ (by simpa using e1) λ h' t1 t2 t3 hp kp=>?_;have ab:e<s.heap.objs.size:=by obtain⟨_,s1⟩:=s1;exact Heap.lt_size s1
  refine⟨.ref s.heap.objs.size,rfl,Ft (s:={ s with heap:=h',toks:=s.toks+1 }) t1 λ h2 z2 sb=>?_⟩;have U:IsPair h2 s.heap.objs.size (.int i s.toks) u1:=sb.extBut _ _ (Nat.ne_of_gt ab) hp;refine⟨.ref s.heap.objs.size,upd H s.heap.objs.size (.tup [.int i,x]),I.turnedN (t':=s.toks+1) (fp:=[e,it]) (λ c o J q=>sb.extBut _ _ (λ z=>J (by rw[z];simp)) (kp c o (λ z=>J (by rw[z];simp)) (λ z=>J (by rw[z];simp)) q)) hf (Nat.le_refl _) ⟨by show 2<=_;decide,[.int i s.toks,u1],.cons ⟨_,rfl⟩ (.cons ah .nil),⟨_,U,rfl,_,rfl⟩,_,U,rfl⟩,rfl,
   ⟨_,x,rfl,I.fresh,rfl,λ zs hz=>by rw[I.sq_inj hz C];exact hx⟩,⟨by obtain⟨old,z2⟩:=z2;exact⟨old,by simpa using z2⟩,t2.at λ o q=>sb.extBut _ _ aa.symm q⟩,λ c J=>?_⟩;have ai:=(hf c J).1;rw[bj λ q=>?_];. exact ai
  .have:c<s.heap.objs.size:=by
    simp only[List.mem_cons,List.not_mem_nil,or_false]at J;rcases J with e|e <;> subst e
    .exact ab
    .exact s2.lt
   rw[q]at this;exact Nat.lt_irrefl _ this
 done:=by intro X hP hw hK hc i pins s σ H E I hf st hg;subst hP hw hK;obtain⟨xs,C,hx⟩:=hg;obtain⟨ag,r1,p1⟩:=I.sq C;obtain⟨s1,s2⟩:=st;have l1:=r1.length;exact Dt (I.ok.hd hc) ⟨s1,s2,p1⟩ (by simp;omega) λ h' kp=>⟨rfl,I.turnedL (t':=s.toks) (fp:=[e,it]) (λ c o J q=>kp c o (λ z=>J (by rw[z];simp)) q) hf⟩
 self:= λ A i s Q E st h=>by obtain⟨⟨old,s1⟩,_⟩:=st;exact wpAny_pyIter_enum s1 h
end
section
variable {X:Cx} {a b c0 e:Expr} {fa fb fc:M D} {fs:M (List D)} {pos p p2 pt:Pos} {es:List Expr} {x:Str} {x1:Nat}
noncomputable def um:D->Option (Bool × List D)
 | .tup ds=>some (true,ds)
 | .lst ds=>some (false,ds)
 | _=>none
theorem ja {c:Ct} {δ:DS} {σ:St} {H:Hp} {K:PySem.W.Frag} {d:D} {v:V} {b:Bool} {xs:List D} (r:R (gC c δ σ H) d v) (e:um d=some (b,xs)):∃ p vs,v=.ref p∧Sq b K H p vs∧Rs (gC c δ σ H) xs vs:= by
 cases d with
 | tup ds=>
  cases e
  obtain ⟨p,vs,ev,h1,h2⟩:=r.tup
  exact ⟨p,vs,ev,.of (bK _ _ h1),h2⟩
 | lst ds=>
  cases e
  obtain ⟨p,vs,ev,h1,h2⟩:=r.lst
  exact ⟨p,vs,ev,.inl (Rd.mono bK h1),h2⟩
 | _=>cases e
noncomputable def jo:List D->List D->List D
 | x :: xs,y :: ys=>.tup [x,y] :: jo xs ys
 | _,_=>[]
theorem uu:∀ {xs ys:List D} {i:Nat} {d:D},(jo xs ys)[i]? = some d->∃ x y,xs[i]? = some x∧ys[i]? = some y∧d=.tup [x,y]
 | x :: xs,y :: ys,0,d,h=>by cases h;exact ⟨x,y,rfl,rfl,rfl⟩
 | x :: xs,y :: ys,i + 1,d,h=>by
  obtain ⟨x',y',h1,h2,h3⟩:=uu (xs:=xs) (ys:=ys) (i:=i) (by simpa [jo] using h)
  exact ⟨x',y',by simpa using h1,by simpa using h2,h3⟩
 | [],_,i,d,h=>by simp [jo] at h
 | _ :: _,[],i,d,h=>by simp [jo] at h
theorem tS:∀ (xs ys:List D),(jo xs ys).length=min xs.length ys.length
 | x :: xs,y :: ys=>by simp [jo,tS xs ys,Nat.add_min_add_right]
 | [],_=>by simp [jo]
 | _ :: _,[]=>by simp [jo]
theorem Jr {ta:TA} (hg:Gl X "zip") (hm:X.mg "zip" = none) (ha:PA X [a,b] ta) (hs:starEach [a,b] X.env=[(false,eval a X.env),(false,eval b X.env)]:=by rfl) (hs2:starEach [b] X.env=[(false,eval b X.env)]:=by rfl) :
  PI X (.Tuple es x1 pt) (.Call (.Name "zip" p) [a,b] [] pos) (fun σ H R=>ta σ H fun vs H1=>∃ b1 b2 l1 l2 xs ys,vs=[.ref l1,.ref l2]∧Sq b1 X.K H1 l1 xs∧Sq b2 X.K H1 l2 ys∧R (P5 X.K b1 b2 l1 l2) H1):= by
 intro pins s σ H R I h
 refine PyProof.Rows.Call_ (i9 I hg hm (show bootBuiltins "zip" = some (.type "zip") by decide +kernel) (PyProof.Rows.callWith_type1 (c_ (ha pos pins s σ H _ I h) fun us s1 ⟨vs,H1,I1,r1,q1⟩=>?_) (by rw [hs,hs2]) (by rw [hs2];rfl)))
 obtain ⟨b1,b2,l1,l2,xs,ys,e,h1,h2,q⟩:=q1
 subst e
 obtain ⟨u1,u2,rfl,ru1,ru2⟩:=r1.two
 cases ru1
 cases ru2
 obtain ⟨i1s,rv1,p1⟩:=I1.sq h1
 obtain ⟨i2s,rv2,p2⟩:=I1.sq h2
 refine F9 p1 p2 fun h' z TI TO i1 i2 D st kp hnew=>?_
 have I2:Inv X pins σ H1 { s1 with heap:=h' }:=I1.kept (t':=s1.toks) kp
 obtain ⟨t1,t2,t3,t4,t5,_,_⟩:=st
 refine wpAny_pyIter_zip (s:={ s1 with heap:=h' }) t1 ⟨z,[z,TI,TO,i1,i2],_,_,H1,rfl,I2,A_ b1 b2 D ?_ ?_,⟨t1,t2,t3,t4,t5⟩,fun c hc=>?_,q⟩
 .intro hc
  exact Nat.lt_irrefl _ (Nat.lt_of_lt_of_le p1.lt (hnew _ hc))
 .intro hc
  exact Nat.lt_irrefl _ (Nat.lt_of_lt_of_le p2.lt (hnew _ hc))
 .exact I1.fpOk (hnew c hc) (I1.hok.fresh (hnew c hc))
noncomputable def rp:List D->Option md
 | [x,y]=>match um x,um y with
  | some (_,xs),some (_,ys)=>some (bC (jo xs ys))
  | _,_=>none
 | _=>none
theorem Fi {K:PySem.W.Frag} {b1 b2:Bool} {dx dy:D} {xs ys:List D} {l1 l2:Addr} (e1:um dx=some (b1,xs)) (e2:um dy=some (b2,ys)):L5 (P5 K b1 b2 l1 l2) (bC (jo xs ys)) [dx,dy] [.ref l1,.ref l2]:=fun c δ S σ T H i s=>by
 obtain ⟨p1,vs,q1,h1,r1⟩:=ja (K:=K) s.st.head e1
 obtain ⟨p2,us,q2,h2,r2⟩:=ja (K:=K) s.st.tail.head e2
 cases q1
 cases q2
 refine ⟨fun act d ha hd=>?_,fun ei _=>⟨vs,us,h1,h2,?_⟩⟩
 .obtain ⟨x,y,g1,g2,rfl⟩:=uu (gJ ha hd)
  obtain ⟨v,gv,rv⟩:=r1.get g1
  obtain ⟨u,gu,ru⟩:=r2.get g2
  refine ⟨⟨vs,us,v,u,h1,h2,gv,gu⟩,fun z H' yl=>?_⟩
  obtain ⟨q,v',u',rfl,hq,rfl,y1,y2⟩:=yl
  have ev:=y1 vs h1
  have eu:=y2 us h2
  rw [gv] at ev;cases ev
  rw [gu] at eu;cases eu
  exact (s.stk (.cons rv (.cons ru s.st))).newTup (ds:=[x,y]) (vs:=[v,u]) rfl hq
 .rw [r1.length,r2.length]
  have:(bC (jo xs ys)).1.length=min xs.length ys.length:=by simp [bC,tS]
  omega
theorem Lk (hm:X.mg "zip" = none) (ha:DA X [a,b] fs) (hg:Gl X "zip":=by rfl) (hs:starEach [a,b] X.env=[(false,eval a X.env),(false,eval b X.env)]:=by rfl) (hs2:starEach [b] X.env=[(false,eval b X.env)]:=by rfl) :
  DI X (.Tuple es x1 pt) (.Call (.Name "zip" p) [a,b] [] pos) (mC rp fs):=vH (Jr hg hm ha hs hs2) fun σ H Rr ⟨c,δ,S,T,it,δ',s,e,k⟩=>by
 obtain ⟨ds,δ1,e1,e⟩:=bind_some e
 obtain ⟨e2,rfl⟩:=bc e
 refine ⟨c,δ,S,T,ds,δ1,s,e1,fun vs H1 l s1=>?_⟩
 unfold rp at e2
 split at e2
 .rename_i dx dy
  split at e2
  .rename_i b1 xs b2 ys q1 q2
   cases e2
   obtain ⟨v,u,rfl,r1,r2⟩:=OE (s1.st.left l)
   obtain ⟨p1,vs,rfl,h1,_⟩:=ja (K:=X.K) r1 q1
   obtain ⟨p2,us,rfl,h2,_⟩:=ja (K:=X.K) r2 q2
   exact ⟨b1,b2,p1,p2,vs,us,rfl,h1,h2,k _ [dx,dy] [.ref p1,.ref p2] H1 rfl (Fi q1 q2) s1⟩
  .cases e2
 .cases e2
noncomputable def my:Nat->List D->List D
 | _,[]=>[]
 | n,x :: xs=>.tup [.int n,x] :: my (n + 1) xs
theorem sQ:∀ {xs:List D} {n i:Nat} {d:D},(my n xs)[i]? = some d->∃ x,xs[i]? = some x∧d=.tup [.int ((n + i:Nat):Int),x]
 | x :: xs,n,0,d,h=>by cases h;exact ⟨x,rfl,rfl⟩
 | x :: xs,n,i + 1,d,h=>by
  obtain ⟨x',h1,h2⟩:=sQ (xs:=xs) (n:=n + 1) (i:=i) (by simpa [my] using h)
  exact ⟨x',by simpa using h1,by rw [h2];congr 4;omega⟩
 | [],n,i,d,h=>by simp [my] at h
theorem uW:∀ (xs:List D) (n:Nat),(my n xs).length=xs.length
 | [],_=>rfl
 | x :: xs,n=>by simp [my,uW xs]
theorem Hk {ta:TA} (hg:Gl X "enumerate") (hm:X.mg "enumerate" = none) (ha:PA X [a] ta) (hs:starEach [a] X.env=[(false,eval a X.env)]:=by rfl) :
  PI X (.Tuple es x1 pt) (.Call (.Name "enumerate" p) [a] [] pos) (fun σ H R=>ta σ H fun vs H1=>∃ b1 l1 xs,vs=[.ref l1]∧Sq b1 X.K H1 l1 xs∧R (Pq X.K b1 l1) H1):= by
 intro pins s σ H R I h
 refine PyProof.Rows.Call_ (i9 I hg hm (show bootBuiltins "enumerate" = some (.type "enumerate") by decide +kernel) (PyProof.Rows.callWith_type1 (c_ (ha pos pins s σ H _ I h) fun us s1 ⟨vs,H1,I1,r1,q1⟩=>?_) hs rfl))
 obtain ⟨b1,l1,xs,e,h1,q⟩:=q1
 subst e
 obtain ⟨u1,rfl,ru1⟩:=r1.one
 cases ru1
 obtain ⟨i1s,rv1,p1⟩:=I1.sq h1
 refine AU p1 fun h' e it n1 n2 n3 st kp f1 f2=>?_
 have I2:Inv X pins σ H1 { s1 with heap:=h' }:=I1.kept (t':=s1.toks) kp
 obtain ⟨⟨old,t1⟩,t2,_⟩:=st
 refine wpAny_pyIter_enum (s:={ s1 with heap:=h' }) t1 ⟨e,[e,it],_,_,H1,rfl,I2,y8 b1 n1 n2 n3,⟨⟨old,t1⟩,t2⟩,fun c hc=>?_,q⟩
 have hc':s1.heap.objs.size ≤ c:= by
  simp only [List.mem_cons,List.not_mem_nil,or_false] at hc
  rcases hc with z | z <;> rw [z] <;> assumption
 exact I1.fpOk hc' (I1.hok.fresh hc')
noncomputable def qQ:List D->Option md
 | [x]=>match um x with
  | some (_,xs)=>some (bC (my 0 xs))
  | _=>none
 | _=>none
theorem EB {K:PySem.W.Frag} {b1:Bool} {dx:D} {xs:List D} {l1:Addr} (e1:um dx=some (b1,xs)):L5 (Pq K b1 l1) (bC (my 0 xs)) [dx] [.ref l1]:=fun c δ S σ T H i s=>by
 obtain ⟨p1,vs,q1,h1,r1⟩:=ja (K:=K) s.st.head e1
 cases q1
 refine ⟨fun act d ha hd=>?_,fun ei _=>⟨vs,h1,?_⟩⟩
 .obtain ⟨x,g1,rfl⟩:=sQ (gJ ha hd)
  obtain ⟨v,gv,rv⟩:=r1.get g1
  refine ⟨⟨vs,v,h1,gv⟩,fun z H' yl=>?_⟩
  obtain ⟨q,v',rfl,hq,rfl,y1⟩:=yl
  have ev:=y1 vs h1
  rw [gv] at ev;cases ev
  rw [Nat.zero_add]
  exact (s.stk (.cons .mkI (.cons rv s.st))).newTup (ds:=[.int i,x]) (vs:=[.int i,v]) rfl hq
 .rw [r1.length]
  have:(bC (my 0 xs)).1.length=xs.length:=by simp [bC,uW]
  omega
theorem G6 (hm:X.mg "enumerate" = none) (ha:DA X [a] fs) (hg:Gl X "enumerate":=by rfl) (hs:starEach [a] X.env=[(false,eval a X.env)]:=by rfl) :
  DI X (.Tuple es x1 pt) (.Call (.Name "enumerate" p) [a] [] pos) (mC qQ fs):=vH (Hk hg hm ha hs) fun σ H Rr ⟨c,δ,S,T,it,δ',s,e,k⟩=>by
 obtain ⟨ds,δ1,e1,e⟩:=bind_some e
 obtain ⟨e2,rfl⟩:=bc e
 refine ⟨c,δ,S,T,ds,δ1,s,e1,fun vs H1 l s1=>?_⟩
 unfold qQ at e2
 split at e2
 .rename_i dx
  split at e2
  .rename_i b1 xs q1
   cases e2
   obtain ⟨v,rfl,r1⟩:=tK (s1.st.left l)
   obtain ⟨p1,vs,rfl,h1,_⟩:=ja (K:=X.K) r1 q1
   exact ⟨b1,p1,vs,rfl,h1,k _ [dx] [.ref p1] H1 rfl (EB q1) s1⟩
  .cases e2
 .cases e2
noncomputable def cx (T:Ty) (d:D):Bool:=(qY T d).getD false
theorem zD (T:Ty) (d:D):qY T d=some (cx T d):=by cases T <;> cases d <;> rfl
noncomputable def BB (r1 r2:D->D->Option D) (fa fb fc:M D):M D:=do
 let x <- fa
 let y <- fb
 let z <- lift (r1 x y)
 match z with
 | .bl true=>do
  let w <- fc
  lift (r2 y w)
 | .bl false=>pure (.bl false)
 | _=>lift none
theorem Di {op op':CmpOp} {g g':Int->Int->V} {h h':Int->Int->D} (ho:gD X (compareOp op) (vE g)) (ho':gD X (compareOp op') (vE g')) (hg:∀ H i j,R H (h i j) (g i j)) (hg':∀ H i j,R H (h' i j) (g' i j)) (ha:DE X a fa) (hb:DE X b fb) (hc:DE X c0 fc)
  (hm:lastMarks [op,op'] [b,c0]=false:=by with_unfolding_all rfl):DE X (.Compare a [op,op'] [b,c0] pos) (BB (df (fun _ _=>true) h) (df (fun _ _=>true) h') fa fb fc):=dj (Au ho ho' ha hb hc hm) fun σ H Q ⟨c,δ,S,T,d,δ',s,e,k⟩=>by
 obtain ⟨x,δ1,e1,e⟩:=bind_some e
 obtain ⟨y,δ2,e2,e⟩:=bind_some e
 obtain ⟨z,δ3,e3,e⟩:=bind_some e
 obtain ⟨e4,rfl⟩:=bc e3
 obtain ⟨i,j,rfl,rfl,_,rfl⟩:=dG e4
 refine ⟨c,δ,S,T,.int i,δ1,s,e1,fun v H1 s1=>⟨c,δ1,.int i :: S,v :: T,.int j,δ2,s1,e2,fun u H2 s2=>?_⟩⟩
 refine ⟨i,j,s2.st.tail.head.int,s2.st.head.int,?_⟩
 have rg:=hg (gC c δ2 σ H2) i j
 cases hz:h i j with
 | bl q=>
  rw [hz] at e rg
  refine ⟨q,rg.bl,?_⟩
  cases q with
  | true=>
   obtain ⟨w,δ4,e5,e⟩:=bind_some e
   obtain ⟨e6,rfl⟩:=bc e
   rw [if_pos rfl]
   obtain ⟨i',j',ei,rfl,_,rfl⟩:=dG e6
   cases ei
   exact ⟨c,δ2,.int j :: .int i :: S,u :: v :: T,.int j',δ4,s2,e5,fun w' H4 s4=>⟨j,j',s4.st.tail.head.int,s4.st.head.int,k _ _ (s4.stk (.cons (hg' _ _ _) s4.st.tail.tail.tail))⟩⟩
  | false=>
   obtain ⟨rfl,rfl⟩:=aZ e
   rw [if_neg Bool.false_ne_true]
   exact k _ _ (s2.stk (.cons .mkB s2.st.tail.tail))
 | _=>rw [hz] at e;cases e
theorem G0 (ha:DE X a fa) (hb:DE X b fb) (hc:DE X c0 fc) (hm:lastMarks [.LtE,.Lt] [b,c0]=false:=by with_unfolding_all rfl):DE X (.Compare a [.LtE,.Lt] [b,c0] pos) (BB zT sv fa fb fc):=Di B5 nU (fun _ _ _=>.mkB) (fun _ _ _=>.mkB) ha hb hc hm
noncomputable def yg:D->Bool
 | .non=>true
 | _=>false
theorem CW {H:Hp} {d:D} {v:V} (r:R H d v):decide (v=.non)=yg d:= by
 cases d with
 | non=>rw [r.non];rfl
 | bl b=>rw [r.bl];rfl
 | int b=>rw [r.int];rfl
 | str b=>rw [r.str];rfl
 | tup b=>obtain ⟨_,_,rfl,_⟩:=r.tup;rfl
 | lst b=>obtain ⟨_,_,rfl,_⟩:=r.lst;rfl
 | dct=>obtain ⟨_,rfl,_⟩:=r.dct;rfl
 | dic _=>obtain ⟨_,rfl,_⟩:=r.dic;rfl
 | dip _=>obtain ⟨_,rfl,_⟩:=r.dip;rfl
noncomputable def Dk (neg:Bool):D->D->Option D
 | x,.non=>some (.bl (if neg then !yg x else yg x))
 | _,_=>none
theorem Aw:uF (fun x y H Q=>y=.non∧Q (.bl (!decide (x=.non))) H) (Dk true):=fun c δ S σ T H x y v u d Q s e k=>by
 cases y with
 | non=>
  cases e
  refine ⟨s.st.head.non,?_⟩
  rw [CW s.st.tail.head]
  exact k _ _ (s.stk (.cons .mkB s.st.tail.tail))
 | _=>cases e
theorem El (ha:DE X a fa) (hb:DE X b fb):DT X (.Compare a [.IsNot] [b] pos) (m2 (Dk true) fa fb >>= dD):=ic G8 Aw ha hb
noncomputable def H_ (tt:M Bool) (body:M Fl):Nat->M Fl
 | 0=>lift none
 | n + 1=>do
  let b <- tt
  if b=true then do
   let fl <- body
   match fl with
   | .nx=>H_ tt body n
   | .ct=>H_ tt body n
   | .bk=>pure .nx
   | .rt d=>pure (.rt d)
   | .rf d=>pure (.rf d)
  else pure .nx
theorem Dm {t:Expr} {sts:List Stmt} {tt:M Bool} {body:M Fl} (n:Nat) (ht:DT X t tt) (hb:vf X sts body) (hp:PassesOwn (model X.prog X.w) X.A X.env X.xe:=by exact PassesOwn.never):qe X (.While t sts [] pos) (H_ tt body n) :=
 jW (Ab hp ht hb) fun E σ0 H0 ⟨c,δ0,S,T,fl,δ',s0,e0,k⟩=>by
  refine ⟨fun m σ H=>∃ δ,Sl c δ S σ T H∧H_ tt body m δ=some (fl,δ'),⟨n,δ0,s0,e0⟩,?_⟩
  rintro m σ H ⟨δ,s,e⟩
  cases m with
  | zero=>cases e
  | succ m=>
   obtain ⟨b,δ1,e1,e⟩:=bind_some e
   refine ⟨c,δ,S,T,b,δ1,s,e1,fun H1 s1=>?_⟩
   cases b with
   | false=>
    rw [if_neg Bool.false_ne_true] at e ⊢
    obtain ⟨rfl,rfl⟩:=aZ e
    exact k _ _ s1
   | true=>
    rw [if_pos rfl] at e ⊢
    obtain ⟨fl1,δ2,e2,e⟩:=bind_some e
    refine ⟨fun σ' H'=>∃ δi,Sl c δi S σ' T H' ∧ H_ tt body m δi=some (fl,δ'),fun σ' H' q=>⟨m,Nat.lt_succ_self m,q⟩,c,δ1,S,T,fl1,δ2,s1,e2,?_⟩
    cases fl1 with
    | nx=>exact fun σ' H' s'=>⟨δ2,s',e⟩
    | ct=>exact fun σ' H' s'=>⟨δ2,s',e⟩
    | bk=>obtain ⟨rfl,rfl⟩:=aZ e;exact k
    | rt d'=>obtain ⟨rfl,rfl⟩:=aZ e;exact k
    | rf xs=>obtain ⟨rfl,rfl⟩:=aZ e;exact k
inductive Qg (f:M (Option Int)) (σ:St) (H:Hp) (Q:Option Int->Hp->Prop):Prop
 | mk (c:Ct) (δ:DS) (S:List D) (T:List V) (o:Option Int) (δ':DS) (s:Sl c δ S σ T H) (e:f δ=some (o,δ')) (q:∀ H',Sl c δ' S σ T H' -> Q o H'):Qg f σ H Q
noncomputable abbrev DO (X:Cx) (e:Option Expr) (f:M (Option Int)):Prop:=PO X e (Qg f)
theorem N1 {e:Option Expr} {t t':TO} (h:PO X e t) (w:∀ σ H Q,t' σ H Q->t σ H Q):PO X e t':=fun pins s σ H Q I q=>h pins s σ H Q I (w σ H Q q)
theorem sD:DO X none (pure none):=N1 Hy fun σ H Q ⟨c,δ,S,T,o,δ',s,e,k⟩=>by
 obtain ⟨rfl,rfl⟩:=aZ e
 exact k _ s
noncomputable def Ju:D->M (Option Int)
 | .int i=>pure (some i)
 | _=>lift none
theorem rj (h:DE X e fa):DO X (some e) (fa >>= Ju):=N1 (Fz h) fun σ H Q ⟨c,δ,S,T,o,δ',s,e,k⟩=>by
 obtain ⟨d,δ1,e1,e⟩:=bind_some e
 refine ⟨c,δ,S,T,d,δ1,s,e1,fun v H' s'=>?_⟩
 cases d with
 | int i=>
  obtain ⟨rfl,rfl⟩:=aZ e
  exact ⟨i,s'.st.head.int,k _ s'.pop⟩
 | _=>cases e
noncomputable def Pb (K:PySem.W.Frag):V->Option Int->Option Int->Hp->VK->Prop:=fun x lo hi H Q=>∃ a xs,x=.ref a∧gm K H a xs∧(HT.sIx xs.length 0 lo=0∧HT.sIx xs.length xs.length hi=xs.length)∧Q (.ref a) H
theorem C3:HL X (Pb X.K):= by
 intro pins s σ H x v vl vu lo hi sl Q I rx hs pl pu h
 obtain ⟨a,xs,rfl,hx,hw,q⟩:=h
 cases rx
 obtain ⟨its,r,ht,hz⟩:=I.tuple hx
 have hlen:its.toArray.size=xs.length:=by rw [List.size_toArray];exact r.length.symm
 refine ⟨"tuple",_,PyProof.Rows.slot_tuple_getitem.lookup,ht.typeIs,?_⟩
 exact tF ht hs pl pu (by rw [hlen];exact hw) ⟨.ref a,H,I,rfl,q⟩
noncomputable def L0 (x:D) (lo hi:Option Int):Option D:=match x with
 | .tup xs=>some (.tup (cutD xs lo hi))
 | .lst xs=>some (.lst (cutD xs lo hi))
 | _=>none
noncomputable def Jo (fa:M D) (fl fh:M (Option Int)):M D:=do
 let x <- fa
 let lo <- fl
 let hi <- fh
 lift (L0 x lo hi)
theorem zR {α:Type} (xs:List α) (lo hi:Option Int) (h1:HT.sIx xs.length 0 lo=0) (h2:HT.sIx xs.length xs.length hi=xs.length):(xs.drop (HT.sIx xs.length 0 lo)).take (HT.sIx xs.length xs.length hi - HT.sIx xs.length 0 lo)=xs:= by
 rw [h1,h2];simp
theorem nZ {lo hi:Option Expr} {fl fh:M (Option Int)} (he:DE X e fa) (hl:DO X lo fl) (hh:DO X hi fh):DE X (.Subscript e (.Slice lo hi none p2) pos) (Jo fa fl fh):=dj (A9 ((J0.or C3).or Fy) he hl hh) fun σ H Q ⟨c,δ,S,T,d,δ',s,e,k⟩=>by
 obtain ⟨x,δ1,e1,e⟩:=bind_some e
 obtain ⟨l,δ2,e2,e⟩:=bind_some e
 obtain ⟨h,δ3,e3,e⟩:=bind_some e
 obtain ⟨e4,rfl⟩:=bc e
 refine ⟨c,δ,S,T,x,δ1,s,e1,fun v H1 s1=>⟨c,δ1,x :: S,v :: T,l,δ2,s1,e2,fun H2 s2=>⟨c,δ2,x :: S,v :: T,h,δ3,s2,e3,fun H3 s3=>?_⟩⟩⟩
 cases x with
 | tup xs=>
  cases e4
  obtain ⟨q,vs,rfl,h1,h2⟩:=s3.st.head.tup
  by_cases hw:HT.sIx vs.length 0 l=0∧HT.sIx vs.length vs.length h=vs.length
  .refine .inl (.inr ⟨q,vs,rfl,.of (bK _ _ h1),hw,k _ _ ?_⟩)
   rw [h2.length] at hw
   rw [show cutD xs l h=xs from zR xs l h hw.1 hw.2]
   exact s3
  .refine .inl (.inl ⟨q,vs,rfl,.of (bK _ _ h1),hw,fun m hm=>k _ _ ?_⟩)
   have rc:=Cz h2 l h
   exact (s3.stk (rc.append s3.st.tail)).newTup rc.length hm
 | lst xs=>
  cases e4
  obtain ⟨q,vs,rfl,h1,h2⟩:=s3.st.head.lst
  refine .inr ⟨q,vs,rfl,.inl (Rd.mono bK h1),fun m hm=>k _ _ ?_⟩
  have rc:=Cz h2 l h
  have s4:=s3.stk (rc.append s3.st.tail)
  obtain ⟨f1,f2,f3⟩:=s4.fresh hm
  exact (s4.hide (o:=.lst (rA vs l h)) hm).unhideL rc.length f1
 | _=>cases e4
end
section
variable {X:Cx} {b e:Expr} {pos p:Pos} {x:Str}
theorem yW(i:Nat){px:Pos}(hm:X.mg "tuple"=none)(C:Gl X "tuple":=by rfl)(I:X.N[i]?=some x:=by rfl)(J:u5 X.env.scope x:=by first|exact Or.inl rfl|exact Or.inr (Or.inl rfl)|exact Or.inr (Or.inr rfl))(hd:(x==("__debug__":Str))=false:=by decide)(o:(x==("__classdict__":Str))=false:=by decide):
  DE X (.Call (.Name "tuple" p) [.Name x px] [] pos) (do let xs<- bO i;pure (.tup xs)):=dj (fK jt C hm (by decide+kernel) (bu (dP I J hd o) da) (by decide) (by decide) rfl rfl) λ σ H Q ⟨c,δ,S,T,fl,U,s,e,k⟩=>by obtain⟨xs,aa,e1,e⟩:=bind_some e;obtain⟨rfl,rfl⟩:=aZ e;obtain⟨⟨b,hi⟩,rfl⟩:=cy e1;obtain⟨q,vs,ev,hq,hx⟩:=s.own hi;exact⟨_,ev,q,vs,rfl,.inl ⟨.of hq,λ m hm=>k _ _ ((s.stk (hx.append s.st)).newTup hx.length hm)⟩⟩
end
noncomputable abbrev bh{α:Type}(n:Nat)(mf:List D->Option α):List D->Option α:= λ ds=>if ds.length=n then mf ds else none
section
variable {P:Program} {w:World} {K:PySem.W.Frag} {mg:Str->Option Value} {base:Heap} {f:Addr} {fd:FuncData} {ps:List Str} {k n:Nat}
theorem E1:eD P w K mg base dF k f fd ps (iW n λ _=>none):=by
 have no: ∀vs H Q E,¬iW n (λ _=>none) vs H Q E:= λ vs H Q E h=>by obtain⟨_,_,_,_,_,_,e,_⟩:=h;cases e
 exact⟨λ vs H Q E h=>absurd h (no vs H Q E),λ A outer s H args us vs Q E _ _ _ _ h=>absurd h (no vs H Q E)⟩
noncomputable def HN(K:PySem.W.Frag):Bool:=K.all λ p=> !(p.2.cls==Value.type "list")
theorem rd_of(J:HN K=true)(h:jr K H a xs):Rd H a (.lst xs):=by
 rcases h with h|⟨o,its,n,C,hc,_⟩
 .exact h
 .have hm: ∃p∈K,p.2=o:=by clear J;induction K with
   |nil=>cases C
   |cons q r U=>
    rw[List.lookup_cons]at C;split at C;. cases C;exact⟨q,List.mem_cons_self,rfl⟩
    .obtain⟨p,I,e⟩:=U C;exact⟨p,List.mem_cons_of_mem _ I,e⟩
  obtain⟨p,I,e⟩:=hm;have:=List.all_eq_true.mp J p I;simp_all
end
noncomputable def Ok{α:Type}(m:M α)(C:DS)(Q:α->DS->Prop):Prop:= ∃a o,m C=some (a,o)/\Q a o
theorem Ok.mono(h:Ok m C Q)(k: ∀a o,Q a o->I a o):Ok m C I:=let⟨a,o,e,q⟩:=h;⟨a,o,e,k a o q⟩
section
variable {α:Type} {δ:DS} {Q:α->DS->Prop}
@[simp ↓]theorem bL:Ok (m >>= f) δ Q ↔ Ok m δ fun a δ'=>Ok (f a) δ' Q:= by
 constructor
 .rintro ⟨a,δ',e,q⟩
  obtain ⟨b,δ1,e1,e2⟩:=bind_some e
  exact ⟨b,δ1,e1,a,δ',e2,q⟩
 .rintro ⟨b,δ1,e1,a,δ',e2,q⟩
  exact ⟨a,δ',by rw [M.bind_def,e1];exact e2,q⟩
@[simp ↓]theorem bU:Ok (pure a) δ Q↔Q a δ:=by
 constructor;. rintro⟨b,o,e,q⟩;obtain⟨rfl,rfl⟩:=aZ e;exact q
 .exact λ q=>⟨a,δ,rfl,q⟩
@[simp ↓]theorem gY:Ok (lift (some a)) δ Q↔Q a δ:=by
 constructor;. rintro⟨b,o,e,q⟩;obtain⟨C,rfl⟩:=bc e;simp_all
 .exact λ q=>⟨a,δ,rfl,q⟩
@[simp ↓]theorem G_:Ok (lift none) δ Q↔False:=⟨λ⟨_,_,e,_⟩=>(by cases e),False.elim⟩
theorem jY(h:o=some a)(q:Q a δ):Ok (lift o) δ Q:=by simp_all
@[simp ↓]theorem Pa [Decidable c]:Ok (if c then m else n) δ Q ↔ (if c then Ok m δ Q else Ok n δ Q):=by grind
end
section
variable {δ:DS}
@[simp ↓]theorem hU:Ok (aV i) δ Q↔ ∃d,δ[i]?=some (.pu d)/\Q d δ:=by
 constructor;. rintro⟨d,o,e,q⟩;obtain⟨C,rfl⟩:=pz e;grind
 .rintro⟨d,e,q⟩;exact⟨d,δ,by unfold aV;rw[e],q⟩
@[simp ↓ high]theorem Ot{d:D}{r:DS}{Q:D->DS->Prop}:Ok (aV 0) (.pu d::r) Q↔Q d (.pu d::r):=(⟨λ ⟨_,_,e,q⟩=>by cases e;exact q,λ q=>⟨_,_,rfl,q⟩⟩)
@[simp ↓ high]theorem OO{a0:Jt.Slot}{d:D}{r:DS}{Q:D->DS->Prop}:Ok (aV 1) (a0::.pu d::r) Q↔Q d (a0::.pu d::r):=(⟨λ ⟨_,_,e,q⟩=>by cases e;exact q,λ q=>⟨_,_,rfl,q⟩⟩)
@[simp ↓ high]theorem OW{a0 a1:Jt.Slot}{d:D}{r:DS}{Q:D->DS->Prop}:Ok (aV 2) (a0::a1::.pu d::r) Q↔Q d (a0::a1::.pu d::r):=(⟨λ ⟨_,_,e,q⟩=>by cases e;exact q,λ q=>⟨_,_,rfl,q⟩⟩)
@[simp ↓ high]theorem OH{a0 a1 a2:Jt.Slot}{d:D}{r:DS}{Q:D->DS->Prop}:Ok (aV 3) (a0::a1::a2::.pu d::r) Q↔Q d (a0::a1::a2::.pu d::r):=(⟨λ ⟨_,_,e,q⟩=>by cases e;exact q,λ q=>⟨_,_,rfl,q⟩⟩)
@[simp ↓ high]theorem OM{a0 a1 a2 a3:Jt.Slot}{d:D}{r:DS}{Q:D->DS->Prop}:Ok (aV 4) (a0::a1::a2::a3::.pu d::r) Q↔Q d (a0::a1::a2::a3::.pu d::r):=(⟨λ ⟨_,_,e,q⟩=>by cases e;exact q,λ q=>⟨_,_,rfl,q⟩⟩)
@[simp ↓ high]theorem Oq{a0 a1 a2 a3 a4:Jt.Slot}{d:D}{r:DS}{Q:D->DS->Prop}:Ok (aV 5) (a0::a1::a2::a3::a4::.pu d::r) Q↔Q d (a0::a1::a2::a3::a4::.pu d::r):=(⟨λ ⟨_,_,e,q⟩=>by cases e;exact q,λ q=>⟨_,_,rfl,q⟩⟩)
@[simp ↓ high]theorem OJ{a0 a1 a2 a3 a4 a5 a6:Jt.Slot}{d:D}{r:DS}{Q:D->DS->Prop}:Ok (aV 7) (a0::a1::a2::a3::a4::a5::a6::.pu d::r) Q↔Q d (a0::a1::a2::a3::a4::a5::a6::.pu d::r):=(⟨λ ⟨_,_,e,q⟩=>by cases e;exact q,λ q=>⟨_,_,rfl,q⟩⟩)
@[simp ↓]theorem jX:Ok (bT i d) δ Q↔i<δ.length/\Q () (δ.set i (.pu d)):=by
 constructor;. rintro⟨u,o,e,q⟩;obtain⟨h,rfl⟩:=kP e;simp_all
 .rintro⟨h,q⟩;exact⟨(),_,by unfold bT;rw[if_pos h],q⟩
@[simp ↓]theorem OA:Ok (BU i d) δ Q↔i<δ.length/\Q () (δ.set i (.ow false d)):=by
 constructor;. rintro⟨u,o,e,q⟩;obtain⟨h,rfl⟩:=qC e;simp_all
 .rintro⟨h,q⟩;exact⟨(),_,by unfold BU;rw[if_pos h],q⟩
@[simp ↓]theorem iP:Ok (bO i) δ Q↔ ∃b xs,δ[i]?=some (.ow b xs)/\Q xs δ:=by
 constructor;. rintro⟨d,o,e,q⟩;obtain⟨⟨b,C⟩,rfl⟩:=cy e;grind
 .rintro⟨b,d,e,q⟩;exact⟨d,δ,by unfold bO;rw[e],q⟩
@[simp ↓]theorem tH:Ok (setOw i xs) δ Q↔ ∃b ys,δ[i]?=some (.ow b ys)/\Q () (δ.set i (.ow b xs)):=by
 constructor;. rintro⟨u,o,e,q⟩;obtain⟨b,ys,h,rfl⟩:=gS e;grind
 .rintro⟨b,ys,h,q⟩;exact⟨(),_,by unfold setOw;rw[h],q⟩
@[simp ↓]theorem AW:Ok (kX i) δ Q↔ ∃xs,δ[i]?=some (.ow false xs)/\Q xs (δ.set i .un):=by
 constructor;. rintro⟨d,o,e,q⟩;unfold kX at e;grind
 .rintro⟨d,e,q⟩;exact⟨d,_,by unfold kX;rw[e],q⟩
@[simp ↓]theorem mG:Ok (eB i C) δ Q↔Ok C δ λ d o=>i<o.length/\Q .nx (o.set i (.pu d)):=by unfold eB;simp
@[simp ↓]theorem KJ:Ok (wx i C) δ Q↔Ok C δ λ d o=>i<o.length/\Q .nx (o.set i (.ow false d)):=by unfold wx;simp
@[simp ↓]theorem cn:Ok (br f g) δ Q↔Ok f δ λ C o=>match C with
  | .nx=>Ok g o Q
  |C=>Q C o:=by
 unfold br;rw[bL];constructor <;>
 .intro h;refine h.mono λ C o q=>?_;cases C <;> simpa using q
theorem ck(P:DS->Prop)(h:Ok f δ λ C o=>C= .nx/\P o)(k: ∀o,P o->Ok g o Q):Ok (br f g) δ Q:=by rw[cn];refine h.mono λ C o ⟨e,p⟩=>?_;grind
theorem gU{Q:Fl->DS->Prop}(b:Bool)(U:Ok t δ λ C o=>C=b/\o=δ)(h1:b=true->Ok J δ λ I o=> ∃d,I= .rt d/\Q (.rt d) o)(h2:b=false->Ok g δ Q):Ok (br (eY t J (pure .nx)) g) δ Q:=by rw[cn];unfold eY;rw[bL];refine U.mono λ C o ⟨e1,e2⟩=>?_;subst e1 e2;cases C with
 |true=>refine Ok.mono (m:=J) (h1 rfl) λ I aa ⟨d,e,q⟩=>?_;simp_all
 |false=>exact(bU (Q:= λ I o=>_)).mpr (h2 rfl)
theorem fS{Q:α->DS->Prop}(P:Bool->DS->Prop)(C:Ok t δ P)(U: ∀o,P true o->Ok I o Q)(h2: ∀o,P false o->Ok J o Q):Ok (eY t I J) δ Q:=by unfold eY;rw[bL];refine C.mono λ b o p=>?_;grind
@[simp ↓]theorem vN{Q:α->DS->Prop}:Ok (eY t C I) δ Q↔Ok t δ λ b o=>if b=true then Ok C o Q else Ok I o Q:=by unfold eY;simp
@[simp ↓]theorem FJ:Ok (qL ta tb) δ Q↔Ok ta δ λ b o=>if b=true then Ok tb o Q else Q false o:=by unfold qL;simp
@[simp ↓]theorem Jn:Ok (vj ta tb) δ Q↔Ok ta δ λ b o=>if b=true then Q true o else Ok tb o Q:=by unfold vj;simp
@[simp ↓]theorem EK:Ok (fC ta) δ Q↔Ok ta δ λ b o=>Q (!b) o:=by unfold fC;simp
@[simp ↓]theorem yn:Ok (m2 f I J) δ Q↔Ok I δ λ x o=>Ok J o λ y C=>Ok (lift (f x y)) C Q:=by unfold m2;simp
@[simp ↓]theorem jv:Ok (mC f fs) δ Q↔Ok fs δ λ ds o=>Ok (lift (f ds)) o Q:=by unfold mC;simp
@[simp ↓]theorem HS:Ok (mQ f fs) δ Q↔Ok fs δ λ ds o=>Ok (lift (f ds)) o Q:=by unfold mQ;simp
@[simp ↓]theorem d3:Ok (aR I fs) δ Q↔Ok I δ λ x o=>Ok fs o λ xs C=>Q (x::xs) C:=by unfold aR;simp
@[simp ↓]theorem E7:Ok (dm fs) δ Q↔Ok fs δ λ xs o=>Ok (lift (few xs.length)) o λ _ C=>Q (.tup xs) C:=by unfold dm;simp
@[simp ↓]theorem xH:Ok (dW fs) δ Q↔Ok fs δ λ xs o=>Ok (lift (few xs.length)) o λ _ C=>Q xs C:=by unfold dW;simp
@[simp ↓]theorem iU:Ok (lift (few n)) δ Q↔n<=100000/\Q () δ:=by
 unfold few;split;. simp_all
 .rename_i h;rw[G_];exact⟨False.elim,λ q=>h q.1⟩
@[simp ↓]theorem DD:Ok (dD d) δ Q↔ ∃b,d= .bl b/\Q b δ:=by
 constructor;. rintro⟨b,o,e,q⟩;obtain⟨C,rfl⟩:=jN e;grind
 .rintro⟨b,rfl,q⟩;exact⟨b,δ,rfl,q⟩
@[simp ↓]theorem Jm:Ok (Ju d) δ Q↔ ∃i,d= .int i/\Q (some i) δ:=by cases d <;> simp[Ju]
@[simp ↓]theorem Hq:Ok (yL i C) δ Q↔(∃b xs,δ[i]?=some (.ow b xs))/\Ok C δ λ y o=> ∃b xs,o[i]?=some (.ow b xs)/\Ok (lift (dq (.lst xs) y)) o Q:=by unfold yL;simp
@[simp ↓]theorem Dy:Ok (jx i) δ Q↔ ∃b xs,δ[i]?=some (.ow b xs)/\Q (.int xs.length) δ:=by unfold jx;simp
@[simp ↓]theorem L6:Ok (rH i I k) δ Q↔Ok I δ λ d o=> ∃b xs,o[i]?=some (.ow b xs)/\Ok (lift (zE xs.length k)) o λ j C=> ∃b ys,C[i]?=some (.ow b ys)/\Q .nx (C.set i (.ow b (xs.set j d))):=by unfold rH;simp
theorem vS(h0: ∃b xs,δ[i]?=some (.ow b xs))(h:Ok fs δ λ ds o=> ∃d b xs,ds=[d]/\o[i]?=some (.ow b xs)/\xs.length<=100000/\Q .nx (o.set i (.ow b (xs++[d])))):Ok (gi i fs) δ Q:=by unfold gi;obtain⟨b,xs,e⟩:=h0;simp only[bL,iP];refine⟨b,xs,e,h.mono λ ds o q=>?_⟩;obtain⟨d,C,ys,rfl,I,J,q⟩:=q;simp only[bL,iP,iU,tH,bU];grind
theorem E8(h0: ∃b xs,δ[i]?=some (.ow b xs))(h:Ok fs δ λ ds o=> ∃(j:Nat) (b:Bool) (xs:List D) (d:D),ds=[.int j]/\o[i]?=some (.ow b xs)/\j<100000/\xs[j]?=some d/\Q d (o.set i (.ow b (xs.eraseIdx j)))):Ok (uY i fs) δ Q:=by
 unfold uY;obtain⟨b,xs,e⟩:=h0;simp only[bL,iP];refine⟨b,xs,e,h.mono λ ds o q=>?_⟩;obtain⟨j,C,ys,d,rfl,I,U,J,q⟩:=q;simp only[bL,iP,tH,bU];refine⟨C,ys,I,jY (a:=d) ?_ ⟨C,ys,I,?_⟩⟩;. rw[if_pos (by omega)];exact J
 .exact q
@[simp ↓]theorem OD:Ok (rK C I) δ Q↔Ok C δ λ x o=>match x with
  | .bl true=>Ok I o Q
  | .bl false=>Q (.bl false) o
  |_=>False:=by
 unfold rK;rw[bL];constructor <;>
 .intro h;refine h.mono λ x o q=>?_;cases x with
  |bl b=>cases b <;> simpa using q
  |_=>simp_all
@[simp ↓]theorem OQ:Ok (AV C) δ Q↔Ok C δ λ x o=>match x with
  | .bl b=>Q (.bl (!b)) o
  |_=>False:=by
 unfold AV;rw[bL];constructor <;>
 .intro h;refine h.mono λ x o q=>?_;cases x <;> simpa using q
@[simp ↓]theorem GN:Ok (kj T C) δ Q↔Ok C δ λ d o=>Q (.bl (cx T d)) o:=by unfold kj;simp[zD]
@[simp ↓]theorem LL:Ok (Jo J U fh) δ Q↔Ok J δ λ x o=>Ok U o λ l C=>Ok fh C λ h I=>Ok (lift (L0 x l h)) I Q:=by unfold Jo;simp
@[simp ↓]theorem IX:Ok (y3 g U fb) δ Q↔Ok U δ λ h1 o=>Ok fb o λ h2 C=>Ok (rdH h1) C λ x I=>Ok (rdH h2) I λ y J=>Ok (lift (g x y)) J Q:=by unfold y3;simp
@[simp ↓]theorem Kq:Ok (rdH (.th x)) δ Q↔Q x δ:=by
 constructor;. rintro⟨b,o,e,q⟩;cases e;exact q
 .exact λ q=>⟨x,δ,rfl,q⟩
@[simp ↓]theorem K1:Ok (rdH (.ls i)) δ Q↔ ∃b xs,δ[i]?=some (.ow b xs)/\Q (.lst xs) δ:=by
 constructor;. rintro⟨d,o,e,q⟩;unfold rdH at e;grind
 .rintro⟨b,xs,h,q⟩;exact⟨_,δ,by unfold rdH;dsimp only;rw[h],q⟩
@[simp ↓]theorem GI:Ok (CP i) δ Q↔ ∃b xs,δ[i]?=some (.ow b xs)/\Q (.ls i) δ:=by unfold CP;simp
@[simp ↓]theorem zG:Ok (vK J fs) δ Q↔Ok J δ λ h o=>Ok fs o λ xs C=>Ok (rdH h) C λ x I=>Q (x::xs) I:=by unfold vK;simp
@[simp ↓]theorem EJ:Ok (dg i n mf fs) δ Q↔Ok fs δ λ ds o=> ∃b xs,o[i]?=some (.ow b xs)/\ds.length+1=n/\ ∃r,mf xs ds=some r/\Q r.1 (o.set i (.ow b r.2)):=by
 constructor
 .rintro⟨d,aa,e,q⟩;unfold dg at e;split at e;. cases e
  .rename_i ds o I;split at e
   .rename_i b xs J;split at e
    .rename_i U;split at e;. cases e
     .rename_i d' C e3;cases e;exact⟨ds,o,I,b,xs,J,U,(d,C),e3,q⟩
    .cases e
   grind
 .rintro⟨ds,o,e,b,xs,I,U,⟨d,C⟩,J,q⟩;exact⟨d,_,by unfold dg;rw[e];dsimp only;rw[I];dsimp only;rw[if_pos U,J],q⟩
@[simp ↓]theorem uc:Ok (bF gt tt te d) δ Q↔Ok (gt d) δ λ _ C=>Ok tt C λ b o=>if b=true then Ok te o λ x I=>Q (some x) I else Q none o:=by unfold bF;simp
@[simp ↓]theorem yu:Ok (fQ n g (.tup ds)) δ Q↔(if ds.length=n then Ok (g ds) δ Q else False):=by show Ok (if ds.length=n then g ds else lift none) δ Q↔_;simp
@[simp ↓]theorem qE:Ok (cN f g (d::ds)) δ Q↔Ok (f d) δ λ _ o=>Ok (g ds) o Q:=by show Ok (f d >>=λ _=>g ds) δ Q↔_;simp
@[simp ↓]theorem uQ:Ok (gQ []) δ Q↔Q () δ:=by show Ok (pure ()) δ Q↔_;simp
end
section
variable {δ:DS}
theorem lY{J:M md}{turn:D->M (Option D)}{Q:List D->DS->Prop}(ds:List D)(g:D->Option D)(hl:δ.length=lo)(hi:Ok J δ λ it C=>it=bC ds/\C=δ)(hn:ds.length<=100000)
  (ht: ∀d∈ds,Ok (turn d) (δ++List.replicate own .un) λ o I=>o=g d/\I.take lo=δ)(hQ:Q (ds.filterMap g) δ):Ok (bB lo own J turn) δ Q:=by
 have gen: ∀es:List D,(∀d∈es,d∈ds)->eO own turn (λ _=>true) (bC es).1 δ=some (es.filterMap g,δ):=by intro es;induction es with
  |nil=>intro _;rfl
  |cons d es ih=>intro hs;obtain⟨o,I,e,rfl,U⟩:=ht d (hs d List.mem_cons_self);show eO own turn (λ _=>true) ((λ _=>some d)::(bC es).1) δ=_;unfold eO;grind
 unfold bB;simp only[bL];refine⟨(),δ,by unfold j6;rw[if_pos hl],hi.mono λ it C ⟨e1,U⟩=>?_⟩;subst e1 U;exact iU.mpr ⟨by simpa[bC]using hn,ds.filterMap g,C,gen ds λ _ h=>h,hQ⟩
theorem cw{α:Type}{lo own:Nat}{J:M md}{turn:D->M (Option D)}{Q:List D->DS->Prop}(as:List α)(e:α->D)(g:α->Option D)(hl:δ.length=lo)(hi:Ok J δ λ it C=>it=bC (as.map e)/\C=δ)(hn:as.length<=100000)
  (ht: ∀a∈as,Ok (turn (e a)) (δ++List.replicate own .un) λ o I=>o=g a/\I.take lo=δ)(hQ:Q (as.filterMap g) δ):Ok (bB lo own J turn) δ Q:=by
 have gen: ∀es:List α,(∀d∈es,d∈as)->eO own turn (λ _=>true) (bC (es.map e)).1 δ=some (es.filterMap g,δ):=by intro es;induction es with
  |nil=>intro _;rfl
  |cons d es ih=>intro hs;obtain⟨o,I,U,e0,e2⟩:=ht d (hs d List.mem_cons_self);show eO own turn (λ _=>true) ((λ _=>some (e d))::(bC (es.map e)).1) δ=_;unfold eO;grind
 unfold bB;simp only[bL];refine⟨(),δ,by unfold j6;rw[if_pos hl],hi.mono λ it C ⟨U,e2⟩=>?_⟩;subst U e2;exact iU.mpr ⟨by simpa[bC]using hn,as.filterMap g,C,gen as λ _ h=>h,hQ⟩
theorem cY{α β:Type}(p:α->Bool)(f:α->β)(as:List α):(as.filterMap λ a=>if p a=true then some (f a)else none)=(as.filter p).map f:=by induction as with
 |nil=>rfl
 |cons a r o=>grind
theorem dC{fi:M md}{turn:D->M (Option D)}{Q:List D->DS->Prop}(ds:List D)(I:Nat->List D->DS->Prop)(hl:δ.length=lo)(hi:Ok fi δ λ it C=>it=bC ds/\C=δ)(hn:ds.length<=100000)(h0:I 0 [] δ)
  (ht: ∀k(hk:k<ds.length) acc δ,acc.length<=k->δ.length=lo->I k acc δ->Ok (turn ds[k]) (δ++List.replicate own .un) λ o J=>(J.take lo).length=lo/\I (k+1) (acc++o.toList) (J.take lo))(hQ: ∀xs C,xs.length<=ds.length->C.length=lo->I ds.length xs C->Q xs C):Ok (bB lo own fi turn) δ Q:=by
 have gen: ∀(n k:Nat)(acc:List D)(δ:DS),ds.length-k=n->k<=ds.length->acc.length<=k->δ.length=lo->I k acc δ-> ∃xs C,eO own turn (λ _=>true) (bC (ds.drop k)).1 δ=some (xs,C)/\C.length=lo/\I ds.length (acc++xs) C/\(acc++xs).length<=ds.length:=by intro n;induction n with
  |zero=>
   intro k acc δ hk aa h0 h1 h2;have:k=ds.length:=by omega
   subst this;rw[List.drop_length];exact⟨[],δ,rfl,h1,by simpa using h2,by simpa using h0⟩
  |succ n ih=>
   intro k acc δ hk aa h0 h1 h2;have U:k<ds.length:=by omega
   rw[List.drop_eq_getElem_cons U];obtain⟨o,J,e,q1,q2⟩:=ht k U acc δ h0 h1 h2;have ho:o.toList.length<=1:=by cases o <;> simp
   obtain⟨xs,C,e',r1,r2,r3⟩:=ih (k+1) (acc++o.toList) (J.take lo) (by omega) U (by rw[List.length_append];omega) q1 q2;refine⟨o.toList++xs,C,?_,r1,by simpa using r2,by simpa using r3⟩;show eO own turn (λ _=>true) ((λ _=>some ds[k])::(bC (ds.drop (k+1))).1) δ=_;unfold eO;dsimp only;rw[e];dsimp only;rw[h1,e']
 unfold bB;simp only[bL];refine⟨(),δ,by unfold j6;rw[if_pos hl],hi.mono λ it C ⟨e1,e2⟩=>?_⟩;subst e1 e2;obtain⟨xs,J,e,r1,r2,r3⟩:=gen ds.length 0 [] C (by omega) (Nat.zero_le _) (Nat.le_refl _) hl h0;exact iU.mpr ⟨by simpa[bC]using hn,xs,J,e,hQ xs J (by simpa using r3) r1 (by simpa using r2)⟩
theorem wC{i n k:Nat}{b:Bool}{xs:List D}(h:k<(dE i n).1.length)(hx:δ[i]?=some (.ow b xs))(o:xs.length=n):(dE i n).1[k] δ=xs[k]?:=by have e:=List.getElem_map (λ j (δ:DS)=>(match δ[i]? with|some (.ow _ xs)=>if xs.length=n then xs[j]? else none|_=>none:Option D)) (l:=List.range n) (i:=k) (h:=by simpa[dE]using h);refine Eq.trans (congrFun e δ) ?_;grind
theorem C8{α:Type}{lo own i:Nat}{b:Bool}{fi:M md}{turn:D->M (Option D)}{Q:List D->DS->Prop}(as:List α)(e:α->D)(g:α->Option D)(hl:δ.length=lo)(hx:δ[i]?=some (.ow b (as.map e)))(hi:Ok fi δ λ it J=>it=dE i as.length/\J=δ)(hn:as.length<=100000)
  (ht: ∀a∈as,Ok (turn (e a)) (δ++List.replicate own .un) λ o U=>o=g a/\U.take lo=δ)(hQ:Q (as.filterMap g) δ):Ok (bB lo own fi turn) δ Q:=by
 have gen: ∀(n k:Nat),as.length-k=n->k<=as.length->eO own turn (dE i as.length).2 ((dE i as.length).1.drop k) δ=some ((as.drop k).filterMap g,δ):=by intro n;induction n with
  |zero=>
   intro k hk aa;have:k=as.length:=by omega
   subst this;rw[List.drop_length,List.drop_eq_nil_of_le (by simp[dE])];have ef:(dE i as.length).2 δ=true:=by simp[dE,hx]
   unfold eO;rw[if_pos ef];rfl
  |succ n ih=>
   intro k hk aa;have C:k<as.length:=by omega
   have I:k<(dE i as.length).1.length:=by simpa[dE]using C
   rw[List.drop_eq_getElem_cons C,List.drop_eq_getElem_cons I];obtain⟨o,U,e1,e0,e2⟩:=ht as[k] (List.getElem_mem C);unfold eO;have ea:(dE i as.length).1[k] δ=some (e as[k]):=by rw[wC I hx (by simp)];simp[C]
   rw[ea];dsimp only;rw[e1];dsimp only;rw[hl,e2,ih (k+1) (by omega) C,List.filterMap_cons,<- e0];cases o <;> rfl
 unfold bB;simp only[bL];refine⟨(),δ,by unfold j6;rw[if_pos hl],hi.mono λ it J ⟨e1,e2⟩=>?_⟩;subst e1 e2;refine iU.mpr ⟨by simpa[dE]using hn,as.filterMap g,J,?_,hQ⟩;have:=gen as.length 0 (by omega) (Nat.zero_le _);simp_all
noncomputable def N6(gt:D->M Unit)(body:M Fl)(its:List (DS->Option D))(o:Fl):M Fl:=match o with
 | .nx=>forM gt body (λ _=>true) its
 | .ct=>forM gt body (λ _=>true) its
 | .bk=>pure .nx
 | .rt d=>pure (.rt d)
 | .rf d=>pure (.rf d)
theorem yB(gt:D->M Unit)(body:M Fl)(its:List (DS->Option D)){d:D}{δ o C:DS}{u:Unit}{I:Fl}(J:gt d δ=some (u,o))(U:body o=some (I,C)):forM gt body (λ _=>true) ((λ _=>some d)::its) δ=N6 gt body its I C:=by rw[forM];dsimp only;rw[M.bind_def,J];dsimp only;rw[M.bind_def,U];rfl
theorem Bb(ds:List D)(I:Nat->DS->Prop)(h0:I 0 δ)
  (ht: ∀k(hk:k<ds.length) δ,I k δ->Ok (gt ds[k]) δ λ _ U=>Ok body U λ fl o=>match fl with
   | .nx=>I (k+1) o
   | .ct=>I (k+1) o
   | .bk=>Q .nx o
   | .rt d=>Q (.rt d) o
   | .rf d=>Q (.rf d) o)(hQ: ∀δ,I ds.length δ->Q .nx δ):Ok (forM gt body (bC ds).2 (bC ds).1) δ Q:=by
 have gen: ∀(n k:Nat)(δ:DS),ds.length-k=n->k<=ds.length->I k δ->Ok (forM gt body (λ _=>true) (bC (ds.drop k)).1) δ Q:=by intro n;induction n with
  |zero=>
   intro k δ hk aa h;have:k=ds.length:=by omega
   subst this;rw[List.drop_length];exact⟨.nx,δ,rfl,hQ δ h⟩
  |succ n ih=>
   intro k δ hk aa h;have C:k<ds.length:=by omega
   rw[List.drop_eq_getElem_cons C];have ab:=ht k C δ h;obtain⟨u,U,e1,fl,o,e2,q⟩:=ab;have st:forM gt body (λ _=>true) (bC (ds[k]::ds.drop (k+1))).1 δ=N6 gt body (bC (ds.drop (k+1))).1 fl o:=yB gt body _ e1 e2;cases fl with
   |nx=>obtain⟨a,J,e,q'⟩:=ih (k+1) o (by omega) C q;exact⟨a,J,st.trans e,q'⟩
   |ct=>obtain⟨a,J,e,q'⟩:=ih (k+1) o (by omega) C q;exact⟨a,J,st.trans e,q'⟩
   |bk=>exact⟨.nx,o,st,q⟩
   |rt d=>exact⟨.rt d,o,st,q⟩
   |rf d=>exact⟨.rf d,o,st,q⟩
 have:=gen ds.length 0 δ (by omega) (Nat.zero_le _) h0;rwa [List.drop_zero]at this
theorem gg(ds:List D)(I:Nat->DS->Prop)(U:Ok fi δ λ it C=>it=bC ds/\C=δ)(h0:I 0 δ)
  (ht: ∀k(hk:k<ds.length) δ,I k δ->Ok (gt ds[k]) δ λ _ J=>Ok body J λ fl o=>match fl with
   | .nx=>I (k+1) o
   | .ct=>I (k+1) o
   | .bk=>Q .nx o
   | .rt d=>Q (.rt d) o
   | .rf d=>Q (.rf d) o)(hQ: ∀δ,I ds.length δ->Q .nx δ):Ok (do let it<- fi;Jt.forM gt body it.2 it.1) δ Q:=by rw[bL];refine U.mono λ it C ⟨e1,e2⟩=>?_;subst e1 e2;exact Bb ds I h0 ht hQ
end
theorem bJ{body:M Fl}{ds:List D}{d:D}(h:Ok body (entry N ds) λ o _=>o= .rt d):bg N body ds=some d:=by obtain⟨o,C,e,rfl⟩:=h;unfold bg;rw[e]
theorem Gd{body:M Fl}{ds:List D}{d:List D}(h:Ok body (entry N ds) λ o _=>o= .rf d):jU N body ds=some d:=by obtain⟨o,C,e,rfl⟩:=h;unfold jU;rw[e]
theorem gW{body:M Fl}{xs ds:List D}{Q:D->List D->Prop}(h:Ok body (fP N xs ds) λ C δ=> ∃d o,C= .rt d/\δ[0]?=some (.ow true o)/\Q d o): ∃d o,cz N body xs ds=some (d,o)/\Q d o:=by obtain⟨C,I,e,d,o,rfl,J,q⟩:=h;unfold cz;grind
theorem xR{body:M Fl}{ds:List D}{Q:D->Prop}(h:Ok body (entry N ds) λ o _=> ∃d,o= .rt d/\Q d): ∃d,bg N body ds=some d/\Q d:=by obtain⟨o,C,e,d,rfl,q⟩:=h;exact⟨d,by unfold bg;rw[e],q⟩
theorem GY{body:M Fl}{ds:List D}{Q:List D->Prop}(h:Ok body (entry N ds) λ o _=> ∃d,o= .rf d/\Q d): ∃d,jU N body ds=some d/\Q d:=by obtain⟨o,C,e,d,rfl,q⟩:=h;exact⟨d,by unfold jU;rw[e],q⟩
end Jt
namespace Jt
open PySem L2 PySem.Spec PyProof.Rows
noncomputable def OV{α:Type}(g:Nat->Nat->Bool):PySem.W.KasT α->α
 | .ret a=>a
 | .ask i j k=>OV g (k (g i j))
section
noncomputable def IK(K:PySem.W.Frag)(H:Hp):List V->List (List Int)->Prop
 |[],o=>o=[]
 |v::vs,o=> ∃p ns r,v= .ref p/\gm K H p (ns.map V.int)/\o=ns::r/\IK K H vs r
theorem jk: ∀{vs:List V}{us:List Value},Vals vs us-> ∀i:Nat,RelV (vs.getD i V.non) (us.getD i Value.none)
 |_,_,.nil,i=>by rfl
 |_,_,.cons r _,0=>by grind
 |_,_,.cons _ h,i+1=>by simpa using jk h i
theorem t9(h: ∀i,RelV (f i) (g i)): ∀l:List Nat,Vals (l.map f) (l.map g)
 |[]=> .nil
 |i::l=> .cons (h i) (t9 h l)
end
noncomputable def iq:List D->Option (List (List Int))
 |[]=>some []
 | .tup ds::r=>match dN ds,iq r with
  |some ns,some o=>some (ns::o)
  |_,_=>none
 |_=>none
theorem pk(o:List (List Int)):iq (o.map λ ns=> .tup (ns.map .int))=some o:=by induction o with
 |nil=>rfl
 |cons a r C=>
  have: ∀h:List Int,dN (h.map .int)=some h:= λ h=>by induction h with
   |nil=>rfl
   |cons a r C=>simp[dN,C]
  simp[iq,C,this]
theorem wO{K:PySem.W.Frag}{c:Ct}{U:DS}{σ:L2.St}{H:Hp}: ∀{ds:List D}{vs:List V}{o:List (List Int)},Rs (gC c U σ H) ds vs->iq ds=some o->IK K H vs o
 |[],vs,o,h,e=>by cases e;rw[h.inv0];rfl
 |d::ds,vs,o,h,e=>by obtain⟨v,r,ev,h1,h2⟩:=h.inv;cases d with
  |tup xs=>unfold iq at e;cases C:dN xs with
   |none=>rw[C]at e;cases e
   |some ns=>cases I:iq ds with
    |none=>rw[C,I]at e;cases e
    |some nr=>rw[C,I]at e;cases e;obtain⟨p,us,eu,g1,g2⟩:=h1.tup;subst ev eu;have J:=gj g2 C;subst J;exact⟨p,ns,nr,rfl,.of (bK _ _ g1),rfl,wO h2 I⟩
  |_=>cases e
theorem xE: ∀{ds:List D}{vs:List V},Rs H ds vs-> ∀i:Nat,R H (ds.getD i D.non) (vs.getD i V.non)
 |[],vs,h,i=>by rw[h.inv0];rfl
 |d::ds,vs,h,i=>by obtain⟨v,r,ev,o,C⟩:=h.inv;subst ev;cases i with
  |zero=>simpa using o
  |succ i=>simpa using xE C i
theorem CJ(h: ∀i,R H (f i) (g i)): ∀l:List Nat,Rs H (l.map f) (l.map g)
 |[]=> .nil
 |i::l=> .cons (h i) (CJ h l)
end Jt
namespace Jt
open PySem L2
section
variable {X:Cx}
noncomputable def never{α:Type}:M α:= λ _=>none
theorem mI:qe X st never:= λ pins s σ H E I h=>by obtain⟨c,C,S,T,J,o,s,e,k⟩:=h;cases e
end
section
open Classical in
end
section
variable {X:Cx} {a:Expr} {fa:M D} {pos:Pos}
noncomputable def lG:D->Option D
 | .int i=>some (.int (-i))
 |_=>none
noncomputable def m1(f:D->Option D)(fa:M D):M D:=do
 let x<- fa
 lift (f x)
theorem gR(I:DE X a fa):DE X (.UnaryOp .USub a pos) (m1 lG fa):=dj (Og K4 I) λ σ H Q ⟨c,J,S,T,d,U,s,e,k⟩=>by obtain⟨x,o,e1,e⟩:=bind_some e;obtain⟨C,rfl⟩:=bc e;refine⟨c,J,S,T,x,o,s,e1,λ v H' s'=>?_⟩;cases x with
 |int i=>cases C;exact⟨i,s'.st.head.int,k _ _ (s'.pop.stk (.cons .mkI s'.pop.st))⟩
 |_=>cases C
end
section
variable {δ:DS}
@[simp ↓]theorem My:Ok (m1 f C) δ Q↔Ok C δ λ x o=>Ok (lift (f x)) o Q:=by unfold m1;simp
@[simp ↓]theorem IU:Ok (BB U r2 fa fb fc) δ Q↔Ok fa δ λ x C=>Ok fb C λ y I=>Ok (lift (U x y)) I λ z o=>match z with
  | .bl true=>Ok fc o λ w J=>Ok (lift (r2 y w)) J Q
  | .bl false=>Q (.bl false) o
  |_=>False:=by
 unfold BB;simp;constructor <;>
 .intro h;refine h.mono λ x C h=>h.mono λ y I h=>h.mono λ z o h=>?_;cases z with
  |bl b=>cases b <;> simpa using h
  |_=>simp_all
theorem xY(I:Nat->DS->Prop)(h: ∀k δ,I k δ->Ok tt δ λ b o=>(b=true-> ∃j,k=j+1/\Ok body o λ U C=>U= .nx/\I j C)/\(b=false->Q .nx o)):
  ∀(f n:Nat)(δ:DS),n<f->I n δ->Ok (H_ tt body f) δ Q
 |0,n,δ,hf,_=>by omega
 |f+1,n,δ,hf,hI=>by unfold H_;rw[bL];refine(h n δ hI).mono λ b o hb=>?_;cases b with
  |false=>simp_all
  |true=>obtain⟨j,rfl,hj⟩:=hb.1 rfl;show Ok (body >>= _) o Q;rw[bL];refine hj.mono λ U C ⟨e,J⟩=>?_;subst e;exact xY I h f j C (by omega) J
end
end Jt
namespace Jt
open PySem L2 PySem.Spec PyProof.Rows
section
variable {prog:Program} {w:World} {A:Around} {E:Value->Shared->Prop} {s:Shared}
theorem B1 {ws:List Value} (ht:IsTup s.heap t #[]) (hb:IsTup s.heap b ws.toArray) (h:Q (.ref b) s):wpAny (model prog w) A (binaryOp .Add (.ref t) (.ref b)) Q E s:= by
 obtain ⟨⟨cls,dd,data,sl⟩,ho,hc,n,hd⟩:=id ht
 obtain ⟨⟨cls2,dd2,data2,sl2⟩,ho2,hc2,n2,hd2⟩:=id hb
 simp at hc hd hc2 hd2
 subst hc hd hc2 hd2
 exact concat_meets ⟨_,ho,rfl⟩ ⟨_,ho2,rfl⟩ noFill_tuple_add seq_tuple_add PySem.F.slot_tuple_add PySem.F.entry_tuple_add (PySem.F.args_tuple_add_2 _ _) (tuple_addW0 t b #[] ws.toArray n n2 dd dd2 sl sl2 rfl) ⟨ho,ho2,h⟩
end
section
variable {X:Cx} {a b e:Expr} {fa fb:M D} {pos:Pos}
noncomputable def HZ(K:PySem.W.Frag):R2:= λ x y H Q=>DY K x y H Q\/ ∃p q ys,x= .ref p/\y= .ref q/\gm K H p []/\gm K H q ys/\Q (.ref q) H
theorem Fm:gD X (binaryOp .Add) (HZ X.K):=by
 intro pins s σ H x y v u Q I o C h;rcases h with h|⟨p,q,ys,rfl,rfl,U,hq,k⟩
 .exact GQ pins s σ H x y v u Q I o C h
 .cases o;cases C;obtain⟨its,r1,p1,_⟩:=I.tuple U;obtain⟨J,r2,p2,_⟩:=I.tuple hq;have e:its=[]:=r1.nil_iff.mpr rfl;subst e;exact B1 p1 p2 ⟨.ref q,H,I,rfl,k⟩
noncomputable def mR:D->D->Option D
 | .tup xs,.tup ys=>if xs.length+ys.length<=100000 then some (.tup (xs++ys))else none
 |_,_=>none
theorem AA{K:PySem.W.Frag}:uF (HZ K) mR:= λ c C S σ T H x y v u d Q s e k=>by
 unfold mR at e;split at e
 .rename_i xs ys;split at e;. rename_i I;cases e;cases xs with
   |cons x xs=>refine .inl (DV c C S σ T H (.tup (x::xs)) (.tup ys) v u _ Q s ?_ k);show(if xs.length+1+ys.length<=100000 then _ else _)=_;rw[if_pos (by simpa using I)]
   |nil=>obtain⟨p,ws,rfl,o,J⟩:=s.st.tail.head.tup;obtain⟨q,zs,rfl,U,h5⟩:=s.st.head.tup;rw[J.inv0]at o;exact .inr ⟨p,q,zs,rfl,rfl,.of (bK _ _ o),.of (bK _ _ U),k _ _ (s.stk (.cons s.st.head s.st.tail.tail))⟩
  grind
 grind
theorem ym(o:DE X a fa)(C:DE X b fb):DE X (.BinOp a .Add b pos) (m2 mR fa fb):=lb Fm AA o C
theorem JI{σ:L2.St}{H:Hp}{s:Shared}(I:L2.Inv X pins σ H s):s.heap.objs.size≠sysModules:= λ e=>by obtain⟨_,_,_,o,_⟩:=I.mod.glob;have:=Heap.lt_size (I.bk _ _ o);rw[e]at this;exact absurd this (by decide)
theorem Cy:PE X (.Dict [] [] pos) (λ σ H Q=> ∀l,H l=none->Q (.ref l) (upd H l (mX l))):=by intro pins s σ H Q I h;refine wpAny_Dict_empty ?_;have g:(s.heap.push { cls:= .type "dict",data:= .dict #[] }).get? s.heap.objs.size=some { cls:= .type "dict",data:= .dict #[] }:=Heap.get?_push_size _ rfl;refine⟨.ref s.heap.objs.size,_,I.laid (t':=s.toks) (o:=mX s.heap.objs.size) (λ b ob q=>Heap.get?_push_of_some _ q) (Nat.le_refl _) ⟨⟨JI I,_,_,g,rfl,rfl⟩,⟨_,g⟩,λ h1 h2 ⟨C,o,n,J,U,e3⟩ k=>⟨C,o,n,k o J,U,e3⟩⟩,rfl,h _ (I.hok.fresh (Nat.le_refl _))⟩
theorem BG:DE X (.Dict [] [] pos) (pure .dct):=dj Cy λ σ H Q ⟨c,I,S,T,d,C,s,e,k⟩=>by obtain⟨rfl,rfl⟩:=aZ e;intro l o;have s':=s.grow (fT o (mX l));exact k _ _ (s'.stk (.cons (.mkD (fO.mpr ⟨s.hdNew o,bz⟩)) s'.st))
end
section
variable {X:Cx} {a:Expr} {fa:M D} {fs:M (List D)} {es us:List Expr} {vs:List (Option Expr)} {pos p2:Pos} {j:Nat} {c:Const} {o:UnaryOp} {env:Env}
theorem FZ:swapsWith (.List es p2) t l env=pure false:=rfl
theorem Br:starEach (.Constant c j p2::es) env=(false,eval (.Constant c j p2) env)::starEach es env:=rfl
theorem I_:starEach (.Tuple us j p2::es) env=(false,eval (.Tuple us j p2) env)::starEach es env:=rfl
theorem Lb:starEach (.List us p2::es) env=(false,eval (.List us p2) env)::starEach es env:=rfl
theorem IV:starEach (.Dict vs us p2::es) env=(false,eval (.Dict vs us p2) env)::starEach es env:=rfl
theorem Ny:starEach (.UnaryOp o a p2::es) env=(false,eval (.UnaryOp o a p2) env)::starEach es env:=rfl
theorem o5(C:DE X (.Constant c j p2) fa)(I:DA X es fs):DA X (.Constant c j p2::es) (aR fa fs):=aO C I Br
theorem kR(C:DE X (.Tuple us j p2) fa)(I:DA X es fs):DA X (.Tuple us j p2::es) (aR fa fs):=aO C I I_
theorem NJ(C:DE X (.List us p2) fa)(I:DA X es fs):DA X (.List us p2::es) (aR fa fs):=aO C I Lb
theorem P1(C:DE X (.Dict vs us p2) fa)(I:DA X es fs):DA X (.Dict vs us p2::es) (aR fa fs):=aO C I IV
theorem PX(C:DE X (.UnaryOp o a p2) fa)(I:DA X es fs):DA X (.UnaryOp o a p2::es) (aR fa fs):=aO C I Ny
theorem x_(i:Nat)(x:Str)(e:Expr)(fa:M D)(pos pos':Pos)(C:X.N.Nodup)(I:X.N[i]?=some x)(hx:Loc X.env.scope x)(hf:X.fn x=true\/X.env.scope.names.lookup x=some .local)(hs:swapsWith e (some (.Name x pos')) pos.line X.env=pure false)(he:DE X e fa):qe X (.Assign [.Name x pos'] e pos) (eB i fa):=bR i C he I hx hs hf
end
theorem fj(neg:Bool)(a b:Int):cQ neg (.int a) (.int b)=some (.bl (if neg then !decide (a=b)else decide (a=b))):=by show(if ke (.int a) (.int b)=true then some (D.bl (if neg then !decide (V.int a=V.int b)else decide (V.int a=V.int b)))else none)=_;rw[if_pos (show ke (.int a) (.int b)=true from rfl)];simp
theorem Kr(neg:Bool)(a b:Int):f9 neg (.int a) (.int b)=some (.bl (if neg then !decide (a=b)else decide (a=b))):=fj neg a b
@[simp]theorem Gu:cx .int .non=false:=rfl
@[simp]theorem HJ(b:Bool):cx .int (.bl b)=true:=rfl
@[simp]theorem Gn(i:Int):cx .int (.int i)=true:=rfl
@[simp]theorem Gi(x:Str):cx .int (.str x)=false:=rfl
@[simp]theorem Hs(xs:List D):cx .int (.tup xs)=false:=rfl
@[simp]theorem Gp(xs:List D):cx .int (.lst xs)=false:=rfl
@[simp]theorem F_:cx .int .dct=false:=rfl
@[simp]theorem Ew(k:List (Int×Int)):cx .int (.dic k)=false:=rfl
@[simp]theorem EO(k:List ((Int×Int)×Int)):cx .int (.dip k)=false:=rfl
@[simp]theorem D9:cx .bool .non=false:=rfl
@[simp]theorem Hz(b:Bool):cx .bool (.bl b)=true:=rfl
@[simp]theorem Ee(i:Int):cx .bool (.int i)=false:=rfl
@[simp]theorem Ed(x:Str):cx .bool (.str x)=false:=rfl
@[simp]theorem D4(xs:List D):cx .bool (.tup xs)=false:=rfl
@[simp]theorem D_(xs:List D):cx .bool (.lst xs)=false:=rfl
@[simp]theorem Ea:cx .bool .dct=false:=rfl
@[simp]theorem D7(k:List (Int×Int)):cx .bool (.dic k)=false:=rfl
@[simp]theorem Ec(k:List ((Int×Int)×Int)):cx .bool (.dip k)=false:=rfl
@[simp]theorem Gf:cx .tup .non=false:=rfl
@[simp]theorem HY(b:Bool):cx .tup (.bl b)=false:=rfl
@[simp]theorem Fc(i:Int):cx .tup (.int i)=false:=rfl
@[simp]theorem Gb(x:Str):cx .tup (.str x)=false:=rfl
@[simp]theorem GH(xs:List D):cx .tup (.tup xs)=true:=rfl
@[simp]theorem EH(xs:List D):cx .tup (.lst xs)=false:=rfl
@[simp]theorem G7:cx .tup .dct=false:=rfl
@[simp]theorem Ez(k:List (Int×Int)):cx .tup (.dic k)=false:=rfl
@[simp]theorem FC(k:List ((Int×Int)×Int)):cx .tup (.dip k)=false:=rfl
@[simp]theorem Fp:cx .lst .non=false:=rfl
@[simp]theorem HQ(b:Bool):cx .lst (.bl b)=false:=rfl
@[simp]theorem Fq(i:Int):cx .lst (.int i)=false:=rfl
@[simp]theorem Gq(x:Str):cx .lst (.str x)=false:=rfl
@[simp]theorem Hu(xs:List D):cx .lst (.tup xs)=false:=rfl
@[simp]theorem Gs(xs:List D):cx .lst (.lst xs)=true:=rfl
@[simp]theorem Ey:cx .lst .dct=false:=rfl
@[simp]theorem Gk(k:List (Int×Int)):cx .lst (.dic k)=false:=rfl
@[simp]theorem G4(k:List ((Int×Int)×Int)):cx .lst (.dip k)=false:=rfl
@[simp]theorem FO:cx .str .non=false:=rfl
@[simp]theorem Ih(b:Bool):cx .str (.bl b)=false:=rfl
@[simp]theorem Ej(i:Int):cx .str (.int i)=false:=rfl
@[simp]theorem Fw(x:Str):cx .str (.str x)=true:=rfl
@[simp]theorem Fe(xs:List D):cx .str (.tup xs)=false:=rfl
@[simp]theorem Fv(xs:List D):cx .str (.lst xs)=false:=rfl
@[simp]theorem Ek:cx .str .dct=false:=rfl
@[simp]theorem E6(k:List (Int×Int)):cx .str (.dic k)=false:=rfl
@[simp]theorem FL(k:List ((Int×Int)×Int)):cx .str (.dip k)=false:=rfl
end Jt
namespace Jt
open PySem L2
open PyProof.Rows (AllBare)
structure yM (P:Program) (w:World) (l:List Env) (H H':Hp) (h0 h B:Heap):Prop where
 un:Un (iR l) [] H H' h0 h
 hok:lh P w H' h
 inB:∀ b o,h0.get? b=some o->b ∉ iR l->∃ o',B.get? b=some o'
 hB:∀ b o,H' b=some o->∃ o',B.get? b=some o'
 st:B.StaysIn h
theorem yM.same (F:yM P w l H H' h0 h B) (st:B.StaysIn h2) (e:h.get? b=some o) (e':B.get? b=some o'):h2.get? b=some o:= by
 have h1:=F.st b o' e'
 rw [e] at h1;cases h1
 exact st b o e'
theorem yM.move{h0 h h2 B base:Heap}(F:yM P w l H H' h0 h B)(st:B.StaysIn h2)(up:h.UpToSlots h2)(fr:h.FunFrames base l):yM P w l H H' h0 h2 B:=by
 have J: ∀b∈iR l,∃o,h.get? b=some o/\ ∀vs,o.data≠ .fields vs:= λ b C=>(fr.mem C).2;refine⟨⟨λ b o e n C _=>?_,λ b o e n C _=>?_,F.un.free,λ b o e _=>?_,F.un.tups,F.un.frzs,F.un.tbls⟩,?_,F.inB,F.hB,st⟩;. obtain⟨I,U⟩:=F.inB b o e C;exact F.same st (F.un.keep b o e n C (by simp)) U
 .obtain⟨sl,e1⟩:=F.un.slot b o e n C (by simp);obtain⟨o1,e2,hd⟩:=J b C;rw[e1]at e2;cases e2;obtain⟨aa,e3⟩:=up b _ e1 hd;grind
 .by_cases C:b∈iR l;. obtain⟨o1,e2,hd⟩:=J b C;obtain⟨aa,e3⟩:=up b _ e2 hd;exact⟨_,e3⟩
  .obtain⟨I,U⟩:=F.inB b o e C;exact⟨I,st b I U⟩
 .intro a o e;refine(F.hok a o e).stay (λ b u C q=>?_) (λ _ q=>q) λ _ _ q=>q;have: ∃I,H' b=some I:=by
   rcases C with rfl|C
   .exact⟨o,e⟩
   .exact⟨_,C⟩
  obtain⟨o1,e1⟩:=this;obtain⟨I,U⟩:=F.hB b o1 e1;exact F.same st q U
structure Fx (base:Heap) (l:List Env) (e:Addr) (oe:Obj) (vs:Array Value) (fl:Value) (h:Heap):Prop where
 st:base.StaysIn h
 ne:base.get? e=none
 fr:h.FunFrames base l
 sz:1 < vs.size
 tr:∃ T oT ts,h.get? e=some { oe with data:=.fields (vs.setIfInBounds 1 (.ref T)) }∧base.get? T=none∧T ≠ e∧h.get? T=some oT∧oT.data=.fields ts∧ts[3]? = some fl
section
variable {M:Model} {A:Around} {E:Value->Shared->Prop} {s:Shared} {base:Heap} {env:Env} {outer:List Env} {L e:Addr} {oe:Obj} {vs ws:Array Value} {head fl:Value} {hadNext:Bool} {Q:Unit->Shared->Prop}
theorem tV(ai:A.frames=some (env::outer))(hl:s.heap.FunFrames base (env::outer))(hf:env.frame=some L)(he:s.heap.get? e=some { oe with data:= .fields ws })(hw: ∀x,ws.setIfInBounds 1 x=vs.setIfInBounds 1 x)(hsz:1<vs.size)(aj:base.StaysIn s.heap)(af:base.get? e=none)
  (h: ∀h',Fx base (env::outer) e oe vs (rawInt L) h'->s.heap.UpToSlots h'->Q () { s with heap:=h' }):
  wpAny M A (do let a<- frameOf env;let pl<- entryPlaceOf L hadNext;let b<- EntryCells.newEntry head a .none (rawInt L) .none pl;setField (.ref e) 1 b) Q E s:=by
 have ak:1<ws.size:=by have:=congrArg Array.size (hw .none);simp at this;omega
 have ag:e∉(env::outer).filterMap (·.frame):= λ hm=>by obtain⟨_,o,ho,aa⟩:=hl.mem hm;rw[he]at ho;cases ho;exact aa ws rfl
 refine wpAny_bind (wpAny_frameOf_fun ai hl hf λ I C=>?_);refine wpAny_bind (wpAny_entryPlaceOf λ pl ao=>?_);refine wpAny_bind (wpAny_newObj_type ?_ (ao.sizeOk5 _ _ _ _ _));have J:I.get? e=some { oe with data:= .fields ws }:=(C.2.1 e ag).trans he;have ab:base.StaysIn I:= λ b o U=>(C.2.1 b λ hm=>by rw[(hl.mem hm).1]at U;cases U).trans (aj b o U);have ah:I.objs.size≠e:=Nat.ne_of_gt (Heap.lt_size J);refine wpAny_setField (Heap.get?_push_of_some _ J) rfl ak (h _ ?_ ?_)
 .refine⟨λ b o U=>?_,af,hl.of_keeps λ b o hb aa=>?_,hsz,I.objs.size,_,_,(Heap.get?_update_self _ (Heap.get?_push_of_some _ J) rfl).trans ?_,ab.fresh,ah,(Heap.get?_update_other _ _ (Ne.symm ah)).trans (Heap.get?_push_size I rfl),rfl,?_⟩
  .have ae:e≠b:= λ q=>by rw[<- q,af]at U;cases U
   exact(Heap.get?_update_other _ _ ae).trans (Heap.get?_push_of_some _ (ab b o U))
  .have ae:e≠b:= λ q=>by rw[<- q,he]at hb;cases hb;exact aa ws rfl
   obtain⟨sl,hs⟩:=C.2.2 b o hb;exact⟨_,(Heap.get?_update_other _ _ ae).trans (Heap.get?_push_of_some _ hs),rfl⟩
  .show some { oe with data:= .fields (ws.setIfInBounds 1 _) }=_;rw[hw]
  rfl
 .intro b o hb aa;have ae:e≠b:= λ q=>by rw[<- q,he]at hb;cases hb;exact aa ws rfl
  obtain⟨sl,hs⟩:=C.2.2 b o hb;exact⟨sl,(Heap.get?_update_other _ _ ae).trans (Heap.get?_push_of_some _ hs)⟩
theorem Bj(o:A.frames=some (env::outer))(U:s.heap.FunFrames base (env::outer))(hf:env.frame=some L)(he:s.heap.get? e=some { oe with data:= .fields vs })(J:vs[1]?=some .none)(C:base.StaysIn s.heap)(I:base.get? e=none)
  (h: ∀h',Fx base (env::outer) e oe vs (rawInt L) h'->s.heap.UpToSlots h'->Q () { s with heap:=h' }):wpAny M A (noteFrame (.ref e) env) Q E s:=by unfold noteFrame;simp only[hf];refine wpAny_bind (wpAny_field he rfl J ?_);exact tV o U hf he (λ _=>rfl) (Array.getElem?_eq_some_iff.mp J).1 C I h
theorem xO(aa:A.frames=some (env::outer))(hf:env.frame=some L)(F:Fx base (env::outer) e oe vs .none s.heap)
  (h: ∀h',Fx base (env::outer) e oe vs (rawInt L) h'->s.heap.UpToSlots h'->Q () { s with heap:=h' }):wpAny M A (noteFrame (.ref e) env) Q E s:=by
 obtain⟨ab,ae,hl,hsz,T,oT,ts,he,ah,af,hT,U,h3⟩:=F;unfold noteFrame;simp[hf];refine wpAny_bind (wpAny_field he rfl (x:= .ref T) (by simp[hsz]) ?_);refine wpAny_bind (wpAny_field hT U h3 ?_);refine wpAny_bind (wpAny_setField hT U (Array.getElem?_eq_some_iff.mp h3).1 ?_);have other: ∀b,b≠T->(s.heap.update T (Obj.mapFields (·.setIfInBounds 3 Value.none))).get? b=s.heap.get? b:= λ b J=>Heap.get?_update_other _ _ (Ne.symm J);have C: ∀b o,s.heap.get? b=some o->(∀vs,o.data≠ .fields vs)->b≠T:= λ b o J I q=>by simp_all
 exact tV aa (hl.of_keeps λ b o J I=>⟨o,(other b (C b o J I)).trans J,rfl⟩) hf ((other e (Ne.symm af)).trans he) (λ x=>by simp) hsz
  (λ b o ag=>(other b λ q=>by simp_all).trans (ab b o ag)) ae λ h' F' up=>h h' F' λ b o J I=>up b o ((other b (C b o J I)).trans J) I
theorem l_(F:Fx base l e oe vs fl s.heap)(h: ∀h',Fx base l e oe vs .none h'->s.heap.UpToSlots h'->Q () { s with heap:=h' }):wpAny M A (setFlight (.ref e) none) Q E s:=by
 obtain⟨ae,af,hl,hsz,T,oT,ts,he,ag,ab,hT,aa,h3⟩:=F;have J:3<ts.size:=(Array.getElem?_eq_some_iff.mp h3).1;have other: ∀b,b≠T->(s.heap.update T (Obj.mapFields (·.setIfInBounds 3 (none.elim Value.none λ f=>rawInt f)))).get? b=s.heap.get? b:= λ b U=>Heap.get?_update_other _ _ (Ne.symm U);have C: ∀b o,s.heap.get? b=some o->(∀vs,o.data≠ .fields vs)->b≠T:= λ b o U I q=>by simp_all
 refine wpAny_bind (wpAny_field he rfl (x:= .ref T) (by simp[hsz]) ?_);refine wpAny_setField hT aa J (h _ ⟨λ b o ah=>(other b λ q=>by simp_all).trans (ae b o ah),af,hl.of_keeps λ b o U I=>⟨o,(other b (C b o U I)).trans U,rfl⟩,hsz,T,_,_,(other e (Ne.symm ab)).trans he,ag,ab,Heap.get?_update_self _ hT (Obj.isFreed_of_fields (Obj.data_mapFields aa _)),Obj.data_mapFields aa _,by simp[J]⟩ λ b o U I=>⟨o.slots,(other b (C b o U I)).trans U⟩)
theorem BR(aa:A.frames=some (env::outer))(hf:env.frame=some L)(F:Fx base (env::outer) e oe vs .none s.heap)
  (h: ∀h',Fx base outer e oe vs .none h'->s.heap.UpToSlots h'->Q () { s with heap:=h' }):wpAny M A (leaving env (.ref e)) Q E s:=by refine wpAny_bind (xO aa hf F λ ab I o=>l_ I λ J U C=>h J ?_ (o.trans C));obtain⟨a,b,⟨_,_,c⟩,d,t⟩:=U;exact⟨a,b,c,d,t⟩
theorem zA(aa:A.frames=some (env::outer))(hl:s.heap.FunFrames base (env::outer))(hf:env.frame=some L)(he:s.heap.get? e=some { oe with data:= .fields vs })(hv:vs[1]?=some .none)(ab:base.StaysIn s.heap)(ae:base.get? e=none)
  (h: ∀h',Fx base outer e oe vs .none h'->s.heap.UpToSlots h'->Q () { s with heap:=h' }):wpAny M A (leaving env (.ref e)) Q E s:=by refine wpAny_bind (Bj aa hl hf he hv ab ae λ af I o=>l_ I λ J U C=>h J ?_ (o.trans C));obtain⟨a,b,⟨_,_,c⟩,d,t⟩:=U;exact⟨a,b,c,d,t⟩
end
noncomputable def xB(cls:Value):Obj:={ cls:=cls,data:= .fields #[] }
noncomputable def Eh(t:Addr):Array Value:=#[.ref t,.none,.none,.none,.bool false,.none]
noncomputable def sV(P:Program)(w:World):zY:= λ outer H s E e s'=> ∃(a:Addr) (cls:Value) (t:Addr) (B:Heap) (H':Hp),e= .ref a/\s'.os=s.os/\AllBare s'.gens/\yM P w outer H H' s.heap s'.heap B/\Fx B outer a (xB cls) (Eh t) .none s'.heap/\E cls none H'
section
variable {X:Cx} {pins:List (Addr × Obj)} {σ:St} {H:Hp} {s s':Shared} {h':Heap}
theorem yM.out(I:Inv X pins σ H s)(hx:X.ex=[])(F:yM X.prog X.w X.stack H H' s.heap h2 B):yM X.prog X.w X.outer X.H₀ H' X.s₀.heap h2 B:=by
 have ab: ∀b o,X.s₀.heap.get? b=some o->b≠X.env.locals:= λ b o e=>Nat.ne_of_lt (Nat.lt_of_lt_of_le (Heap.lt_size e) I.ok.above);have aa: ∀b o,X.s₀.heap.get? b=some o->b∉X.fs->b∉iR X.stack:= λ b o e J hm=>by
  rcases List.mem_cons.mp (I.stkSub b hm)with z|z
  .exact ab b o e z
  .exact J z
 have ae: ∀b∈X.fs,b∈iR X.stack:= λ b J=>by
  rcases I.ok.stk with e|⟨e,_⟩
  .rw[e];exact J
  .rw[e];unfold iR;rw[List.filterMap_cons];split;. exact J
   .exact List.mem_cons_of_mem _ J
 have C: ∀b,b∉X.ex:= λ b z=>by rw[hx]at z;cases z
 refine⟨⟨λ b o e n J _=>?_,λ b o e n J _=>?_,λ b o e n _=>?_,λ b o e _=>?_,λ b xs e=>F.un.tups b xs (I.base.tups b xs e),λ b o u e=>F.un.frzs b o u (I.base.frzs b o u e),λ b ps e=>?_⟩,F.hok,λ b o e J=>?_,F.hB,F.st⟩;. exact F.un.keep b o (I.base.keep b o e n J (C b)) (I.base.free b o e n (C b)) (aa b o e J) (by simp)
 .obtain⟨sl,U⟩:=I.base.slot b o e n J (C b);obtain⟨af,e2⟩:=F.un.slot b _ U (I.base.free b o e n (C b)) (ae b J) (by simp);grind
 .obtain⟨o',U⟩:=I.base.there b o e (C b);exact F.un.free b o' U (I.base.free b o e n (C b)) (by simp)
 .obtain⟨o',U⟩:=I.base.there b o e (C b);exact F.un.there b o' U (by simp)
 .obtain⟨m1,U⟩:=I.base.tbls b ps e;obtain⟨m2,e2⟩:=F.un.tbls b _ U;exact⟨m1++m2,by rw[e2,Array.append_assoc]⟩
 .obtain⟨o',U⟩:=I.base.there b o e (C b);exact F.inB b o' U (aa b o e J)
theorem Cg{e:Value}{Q:Unit->Shared->Prop}{U:Value->Shared->Prop}(I:Inv X pins σ H s)(hx:X.ex=[])(o:X.stack=X.env::X.outer)(hf:X.env.frame=some X.env.locals)(h:sV X.prog X.w X.stack H s E e s')(hE: ∀c H',E c none H'->E' c none H')
  (k: ∀C,sV X.prog X.w X.outer X.H₀ X.s₀ E' e C->Q () C):wpAny (model X.prog X.w) X.A (leaving X.env e) Q U s':=by
 obtain⟨a,cls,t,B,H',rfl,os,bare,F,fl,q⟩:=h;rw[o]at fl;refine BR (by rw[I.ok.frames,o]) hf fl λ h' J up=>k _ ⟨a,cls,t,B,H',rfl,os.trans I.os,bare,?_,J,hE _ _ q⟩;have fr:s'.heap.FunFrames B X.stack:=by rw[o];exact fl.fr
 exact yM.out I hx (F.move J.st up fr)
theorem wI{a:Addr}{cls:Value}{args:List Value}{Q:Unit->Shared->Prop}{X':Value->Shared->Prop}(I:Inv X pins σ H s)(hx:X.ex=[])(U:X.stack=X.env::X.outer)(hf:X.env.frame=some X.env.locals)(hm:Heap.MadeExcOf s.heap h' a cls args)(hE:E cls none H)
  (k: ∀aa,sV X.prog X.w X.outer X.H₀ X.s₀ E (.ref a) aa->Q () aa):wpAny (model X.prog X.w) X.A (leaving X.env (.ref a)) Q X' { s with heap:=h' }:=by
 have hin: ∀env∈X.stack,∀b,env.frame=some b->b∈iR X.stack:= λ env he b J=>List.mem_filterMap.mpr ⟨env,he,J⟩;have af:s.heap.FunFrames (PySem.W.hideAll s.heap (iR X.stack)) X.stack:=PySem.W.funFrames_hide I.stack hin;have inB: ∀b o,s.heap.get? b=some o->b∉iR X.stack->(PySem.W.hideAll s.heap (iR X.stack)).get? b=some o:= λ b o e J=>PySem.W.hideAll_get _ e J;have hH: ∀b o,H b=some o->b∉iR X.stack:= λ b o e J=>by rw[I.stkFree b J]at e;cases e
 have ag: ∀b o,H b=some o-> ∃o',(PySem.W.hideAll s.heap (iR X.stack)).get? b=some o':= λ b o e=>by cases q:s.heap.get? b with
  |some o'=>exact⟨o',inB b o' q (hH b o e)⟩
  |none=>exfalso;have:=I.hok b o e;revert this;cases o with
   |lst xs=>rintro⟨_,_,_,_,e⟩;rw[q]at e;cases e
   |tup xs=>rintro⟨_,_,_,⟨ob,e,_⟩,_⟩;rw[q]at e;cases e
   |dK kvs=>rintro⟨_,_,_,_,ob,_,_,e,_⟩;rw[q]at e;cases e
   |dT kvs=>rintro⟨_,_,_,_,ob,_,_,e,_⟩;rw[q]at e;cases e
   |set S n=>rintro⟨ob,_,_,_,e,_⟩;rw[q]at e;cases e
   |ins C dx fs=>rintro⟨_,_,_,e,_⟩;rw[q]at e;cases e
   |own y=>rintro⟨_,e⟩;rw[q]at e;cases e
   |xd fs=>rintro⟨_,⟨_,_,_,e,_⟩,_⟩;rw[q]at e;cases e
   |rng lo hi=>rintro⟨_,_,_,e⟩;rw[q]at e;cases e
   |frz ob u=>rintro⟨e,_⟩;rw[q]at e;cases e
   |tbl ps=>rintro⟨_,e,_⟩;rw[q]at e;cases e
   |met f y=>intro z;have e:s.heap.get? b=some _:=z;simp_all
   |ext φ=>rintro⟨_,⟨_,e⟩,_⟩;rw[q]at e;cases e
 have F0:yM X.prog X.w X.stack H H s.heap s.heap (PySem.W.hideAll s.heap (iR X.stack)):=⟨Un.refl,I.hok,λ b o e J=>⟨o,inB b o e J⟩,ag,λ b o e=>PySem.W.of_hideAll _ e⟩;have ab:s.heap.FunFrames (PySem.W.hideAll s.heap (iR X.stack)) (X.env::X.outer):=U▸af;obtain⟨t,he,ak,ht⟩:=hm.there;have ae:(PySem.W.hideAll s.heap (iR X.stack)).get? a=none:=by cases q:(PySem.W.hideAll s.heap (iR X.stack)).get? a with
  |none=>rfl
  |some o=>have:=PySem.W.of_hideAll _ q;rw[hm.new]at this;grind
 refine zA (base:=PySem.W.hideAll s.heap (iR X.stack)) (oe:=xB cls) (vs:=Eh t) (by rw[I.ok.frames,U]) (ab.of_keeps λ b o J _=>⟨o,hm.keeps b o J,rfl⟩) hf he rfl (λ b o e=>hm.keeps b o (PySem.W.of_hideAll _ e)) ae λ h2 fl up=>k _ ⟨a,cls,t,_,H,rfl,I.os,I.bare,?_,fl,hE⟩;have fr:s.heap.FunFrames (PySem.W.hideAll s.heap (iR X.stack)) X.stack:=PySem.W.funFrames_hide I.stack hin;exact yM.out I hx (F0.move fl.st ((Heap.UpToSlots.of_keeps hm.keeps).trans up) fr)
end
noncomputable abbrev XW:=St->Value->Hp->Prop
noncomputable def XF(X:Cx)(pins:List (Addr×Obj))(W:XW)(e:Value)(s':Shared):Prop:= ∃σ H s,Inv X pins σ H s/\sV X.prog X.w X.stack H s (λ c _ H'=>W σ c H') e s'
noncomputable def XM(X:Cx)(pins:List (Addr×Obj))(W:XW)(e:Value)(s':Shared):Prop:= ∃σ H s a cls args h',Inv X pins σ H s/\e= .ref a/\Heap.MadeExcOf s.heap h' a cls args/\s'={ s with heap:=h' }/\W σ cls H
noncomputable abbrev Qr:=St->Hp->VK->XW->Prop
noncomputable abbrev Qq:=St->Hp->(List V->Hp->Prop)->XW->Prop
noncomputable abbrev PN:=Ends->XW->XW->St->Hp->Prop
noncomputable def Kh(X:Cx)(e:Expr)(t:Qr):Prop:= ∀(pins:List (Addr×Obj))(s:Shared)(σ:St)(H:Hp)(Q:VK)(W:XW),Inv X pins σ H s->t σ H Q W->wpAny (model X.prog X.w) X.A (eval e X.env) (EP X pins σ Q) (XF X pins W) s
noncomputable def Kd(X:Cx)(es:List Expr)(t:Qq):Prop:= ∀(pos:Pos)(pins:List (Addr×Obj))(s:Shared)(σ:St)(H:Hp)(Q:List V->Hp->Prop)(W:XW),Inv X pins σ H s->t σ H Q W->wpAny (model X.prog X.w) X.A (spliced (backTo pos (starEach es X.env))) (AP X pins σ Q) (XF X pins W) s
noncomputable def XS(X:Cx)(pins:List (Addr×Obj))(W o:XW)(e:Value)(s':Shared):Prop:=XF X pins W e s'\/XM X pins o e s'
noncomputable def Ic(X:Cx)(st:Stmt)(t:PN):Prop:= ∀(pins:List (Addr×Obj))(s:Shared)(σ:St)(H:Hp)(D:Ends)(W o:XW),Inv X pins σ H s->t D W o σ H->wpAny (model X.prog X.w) X.A (exec st X.env) (SP X pins D) (XS X pins W o) s
noncomputable def o7(X:Cx)(o:List Stmt)(t:PN):Prop:= ∀(pins:List (Addr×Obj))(s:Shared)(σ:St)(H:Hp)(D:Ends)(W C:XW),Inv X pins σ H s->t D W C σ H->wpAny (model X.prog X.w) X.A (execs o X.env) (SP X pins D) (XS X pins W C) s
section
variable {X:Cx} {e c:Expr} {es:List Expr} {st:Stmt} {rest as bs:List Stmt} {pos p:Pos}
theorem Kl(h:PE X.nox e t):Kh X e (λ σ H Q _=>t σ H Q):= λ pins s σ H Q W I hw=>
 wpAny_mono (h pins s σ H Q (I.wish _) hw) (λ _ _ ⟨v,H',o,r,q⟩=>⟨v,H',o.unwish,r,q⟩) λ _ _ z=>False.elim z
theorem Gy:Kd X [] (λ σ H Q _=>Q [] H):= λ _ pins s σ H Q W I h=>PySem.Calls.spliced_nil ⟨[],H,I,.nil,h⟩
theorem C5(C:Kh X e te)(J:Kd X es t)(hs:starEach (e::es) X.env=(false,eval e X.env)::starEach es X.env:=by rfl):Kd X (e::es) (λ σ H Q W=>te σ H (λ x H1=>t σ H1 (λ xs o=>Q (x::xs) o) W) W):=by intro pos pins s σ H Q W I h;rw[hs];show wpAny _ _ (spliced ((false,eval e X.env)::backTo pos (starEach es X.env))) _ _ s;refine PySem.Calls.spliced_cons (c_ (C pins s σ H _ W I h) λ u s1 ⟨x,H1,U,r1,q1⟩=>?_);exact c_ (J pos pins s1 σ H1 _ W U q1) λ us s2 ⟨xs,o,I2,r2,q2⟩=>⟨x::xs,o,I2,.cons r1 r2,q2⟩
theorem Cj(F:eD X.prog X.w X.K X.mg X.base (sV X.prog X.w) k f fd ps sp)(hr:cX k X.A)(hg:Gl X x)(hm:X.mg x=some (.ref f))(hk:PySem.W.keepIn X.K (.ref f)=true)(hb:Binds X.K fd ps [])
  (ha:Kd X (e::es) t)(J:(x==("__debug__":Str))=false:=by decide)(he:starEach (e::es) X.env=(false,eval e X.env)::starEach es X.env:=by rfl)(U:(backTo pos (starEach es X.env)).any (·.1)=false:=by rfl):
  Kh X (.Call (.Name x p) (e::es) [] pos) (λ σ H Q W=>t σ H (λ vs H1=>sp vs H1 Q (λ c _ H'=>W σ c H')) W):=by
 intro pins s σ H Q W I h;refine wpAny_Call_Name_kw (jm I hg hm ?_ J);refine PySem.W.callWith_K (h₀:=X.base) I.ok.mod.kin hk (c_ (ha pos pins s σ H _ W I h) λ us s1 ⟨vs,H1,o,r,q⟩=>⟨o.kIn,?_⟩) he U;have r2:Vals (vs++[]) (us++[]):=by simp_all
 have q2:sp (vs++[]) H1 Q (λ c _ H'=>W σ c H'):=by simpa using q
 have hl:(us++[]).length=ps.length:=by rw[<- r2.length];exact F.len _ _ _ _ q2
 refine wpAny_call (codeAny_mono (F.run X.A X.stack s1 H1 ⟨us,[]⟩ (us++[]) (vs++[]) Q (λ c _ H'=>W σ c H') hr o.env0 (hb s1 us o.kIn hl) r2 q2) λ r s' C=>?_);cases r with
 |error e=>exact⟨σ,H1,s1,o,C⟩
 |ok fl=>cases fl with
  |ret u=>exact o.after C
  |next=>exact False.elim C
  |brk=>exact False.elim C
  |cont=>exact False.elim C
theorem JQ(h:PS X.nox st t):Ic X st (λ D _ _ σ H=>t D σ H):= λ pins s σ H D W o I hw=>
 wpAny_mono (h pins s σ H D (I.wish _) hw) (λ _ _ q=>q.unwish) λ _ _ z=>False.elim z
theorem Dg(he:Kh X e te)(hs:swapsWith e none pos.line X.env=pure false:=by rfl):Ic X (.Expr e pos) (λ D W _ σ H=>te σ H (λ _ H1=>D.nx σ H1) W):=by intro pins s σ H D W J I h;exact wpAny_Expr_any (wpAny_mono (he pins s σ H _ W I h) (λ v s1 ⟨x,H1,o,U,C⟩=>⟨σ,H1,o,C⟩) λ _ _ z=> .inl z) I.quiet hs
theorem Js(U:PT X.nox c tc)(ha:o7 X as t)(hb:o7 X bs u):Ic X (.If c as bs pos) (λ D W o σ H=>tc σ H λ b H1=>if b=true then t D W o σ H1 else u D W o σ H1):=by intro pins s σ H D W o I h;refine wpAny_If (wpAny_mono (U pins s σ H _ (I.wish _) h) (λ d s1 ⟨H1,C,J⟩=>?_) λ _ _ z=>False.elim z);cases d with
 |true=>exact ha pins s1 σ H1 D W o C.unwish J
 |false=>exact hb pins s1 σ H1 D W o C.unwish J
theorem Dx:o7 X [] (λ D _ _ σ H=>D.nx σ H):= λ pins s σ H D W o I h=>wpAny_execs_nil ⟨σ,H,I,h⟩
theorem yU(J:Ic X st t)(U:o7 X rest u):o7 X (st::rest) (λ D W o σ H=>t { D with nx:=u D W o } W o σ H):=by intro pins s σ H D W o I h;refine wpAny_execs_cons (c_ (J pins s σ H { D with nx:=u D W o } W o I h) λ f s1 q=>?_);cases f with
 |next=>obtain⟨C,H',I',q⟩:=q;exact U pins s1 C H' D W o I' q
 |ret v=>exact q
 |brk=>exact q
 |cont=>exact q
theorem EG{C:Addr}{J:List Value}{newId:String}(Y:K.In h)(q:PySem.W.excIn K C J newId=true):
  ∃bm N nm qn bs hdct sn sub ab col dd k0 k1 k2 k3 k5 mN,h.get? C=some (excClassObj nm qn C N bs bm hdct sn sub ab col dd k0 k1 k2 k3 k5 newId)/\h.Ns N mN/\mN "__init__"=none/\OwnTail h J bm:=by
 unfold PySem.W.excIn at q;split at q
 .rename_i dd cd sl ho;split at q
  .rename_i C' bm k0 k1 k2 k3 n k5 hm hs;simp at q;obtain⟨⟨⟨⟨⟨rfl,rfl⟩,o⟩,ht⟩,I⟩,U⟩:=q;obtain⟨nm,bs,mro,ns,qn,hd,sn,sub,ab,col,del⟩:=cd;dsimp only at hm o I U;subst hm o;have aa:sl=#[k0,k1,k2,k3,some (.builtin n),k5]:=by obtain⟨l⟩:=sl;simp at hs;rw[hs]
   subst aa;exact⟨bm,ns,nm,qn,bs,hd,sn,sub,ab,col,dd,k0,k1,k2,k3,k5,_,Y _ _ ho,.of_isNs (PySem.W.isNs_of_in Y I),PySem.W.nsMap_none_of_in Y I U,PySem.W.tail_of_in Y ht⟩
  .cases q
 grind
theorem yJ{B newId J:String}{bm:List Value}{np o:Pos}{ta:TA}(FB:ExcBaseFacts B newId J bm)(hc:X.calm=true)(hg:Gl X x)(hm:X.mg x=some (.ref C))(hC:PySem.W.excIn X.K C bm newId=true)(ha:PA X.nox (e::es) ta)
  (ae:(x==("__debug__":Str))=false:=by decide)(he:starEach (e::es) X.env=(false,eval e X.env)::starEach es X.env:=by rfl)(aj:(backTo o (starEach es X.env)).any (·.1)=false:=by rfl):
  Ic X (.Raise (some (.Call (.Name x np) (e::es) [] o)) none pos) (λ _ _ Wm σ H=>ta σ H λ vs H1=>vs.length<=sizeLine/\Wm σ (.ref C) H1):=by
 intro pins s σ H D W Wm I h;obtain⟨tl,N,nm,q,bs,hdct,sn,sub,ab,col,dd,k0,k1,k2,k3,k5,mN,af,hN,ag,T⟩:=EG I.ok.mod.kin hC;refine wpAny_Raise_call_subT (C:=C) (nm:=nm) (q:=q) (N:=N) (bs:=bs) (bm:=tl) (hdct:=hdct) (sn:=sn) (sub:=sub) (ab:=ab) (col:=col) (dd:=dd) (k0:=k0) (k1:=k1) (k2:=k2) (k3:=k3) (k5:=k5)
  FB (mN:=mN) (T.hasType FB.hasBase) (I.ok.hd hc) (by rw[he];show(false||(backTo o (starEach es X.env)).any (·.1))=false;grind) ag (jm I hg hm ⟨rfl,?_⟩ ae);have hA:=ha o pins s σ H _ (I.wish _) h;have ah:starEach (e::es) X.nox.env=(false,eval e X.env)::starEach es X.env:=he;rw[ah]at hA;rw[he];refine PySem.Calls.evalArgs_plain (wpAny_mono hA (λ us aa ⟨vs,H1,U,r,hz,hw⟩=>?_) λ _ _ z=>False.elim z);have U:=U.unwish;exact⟨rfl,by rw[<- r.length];exact hz,U.bk _ _ af,hN.keeps U.bk,T.keeps U.bk,λ h' a ai=> .inr ⟨σ,H1,aa,a,_,_,h',U,rfl,ai,rfl,hw⟩⟩
end
end Jt
namespace Jt
open PySem L2
section
variable {X:Cx} {a b e:Expr} {fa fb:M D} {fs:M (List D)} {pos p:Pos}
noncomputable def qo:=df (λ i j=>decide (Builtin.Int.intBits i+Builtin.Int.intBits j<=134217728)) λ i j=> .int (i*j)
theorem GB:gD X (binaryOp .Mult) (rI (λ i j=>Builtin.Int.intBits i+Builtin.Int.intBits j<=134217728) λ i j=> .int (i*j)):=MX λ i j _ _ _ _ _ o q=>PyProof.Rows.mul_int q (PyProof.Rows.mulOk_of_bits (Nat.le_refl _) (Nat.le_refl _) o)
theorem yq(o:DE X a fa)(C:DE X b fb):DE X (.BinOp a .Mult b pos) (m2 qo fa fb):=lb GB (u6 (λ i j h=>of_decide_eq_true h) λ _ _ _=> .mkI) o C
noncomputable def De:=df (λ i j=>decide (0<=j)&&decide (j<=1000000)&&decide (i.natAbs<2^64)) λ i j=> .int (i^j.toNat)
theorem JZ(o:DE X a fa)(C:DE X b fb):DE X (.BinOp a .Pow b pos) (m2 De fa fb):=lb LA (u6 (λ i j h=>by simp at h;exact⟨h.1.1,h.1.2,h.2⟩) λ _ _ _=> .mkI) o C
noncomputable def jT:List D->Option D
 |[.int i,.int j]=>if 0<j/\j<1073741824 then some (.tup [.int (i/j),.int (i%j)])else none
 |_=>none
theorem zC:ig (λ xs H Q=> ∃i j,xs=[.int i,.int j]/\Ja i j/\ ∀p,H p=none->Q (.ref p) (upd H p (.tup [.int (i/j),.int (i%j)]))) jT:= λ c U S σ T H ds vs d Q l s e k=>by
 unfold jT at e;split at e
 .rename_i i j;split at e
  .rename_i o;cases e;obtain⟨v,u,rfl,C,I⟩:=OE (s.st.left l);cases C.int;cases I.int;refine⟨i,j,rfl,o,λ q J=>k _ _ ?_⟩;have s1:=s.stk (Rs.append (ds:=[.int (i/j),.int (i%j)]) (vs:=[.int (i/j),.int (i%j)]) (.cons .mkI (.cons .mkI .nil)) (s.st.right l));exact s1.newTup rfl J
  grind
 grind
theorem yN(hm:X.mg "divmod"=none)(o:DA X [a,b] fs)(C:Gl X "divmod":=by rfl)(he:starEach [a,b] X.env=(false,eval a X.env)::starEach [b] X.env:=by rfl)(I:(backTo pos (starEach [b] X.env)).any (·.1)=false:=by rfl):DE X (.Call (.Name "divmod" p) [a,b] [] pos) (mC jT fs):=
 fv u9 zC C hm (by rfl) o (by decide) (by rfl) he I
noncomputable def tP:List D->Option D
 |[.int i]=>some (.int i)
 |[.bl k]=>some (.int (if k then 1 else 0))
 |_=>none
theorem FX:ig (λ xs H Q=>(∃i,xs=[.int i]/\Q (.int i) H)\/ ∃k,xs=[.bl k]/\Q (.int (if k then 1 else 0)) H) tP:= λ c o S σ T H ds vs d Q l s e k=>by
 unfold tP at e;split at e;. cases e;obtain⟨v,rfl,r⟩:=tK (s.st.left l);cases r.int;exact .inl ⟨_,rfl,k _ _ (s.stk (.cons .mkI (s.st.right l)))⟩
 .cases e;obtain⟨v,rfl,r⟩:=tK (s.st.left l);cases r.bl;exact .inr ⟨_,rfl,k _ _ (s.stk (.cons .mkI (s.st.right l)))⟩
 grind
theorem xo(hm:X.mg "int"=none)(o:DA X [a] fs)(C:Gl X "int":=by rfl)(he:starEach [a] X.env=[(false,eval a X.env)]:=by rfl):DE X (.Call (.Name "int" p) [a] [] pos) (mC tP fs):=
 pK zU FX C hm (by rfl) o (by decide) (by rfl) he rfl
end
noncomputable def vB:Sp:= λ vs H Q _=> ∃(a:Addr) (ns:List Int),vs=[.ref a]/\Rd H a (.lst (ns.map V.int))/\ns.length<=63/\(∀i∈ns,Builtin.Int.intBits i<=2^20)/\ ∀H',Q (.bl true) H'
section
variable {P:Program} {w:World} {K:PySem.W.Frag} {mg:Str->Option Value} {base:Heap} {k:Nat} {f:Addr} {fd:FuncData} {ps:List Str}
theorem EE(F:eD P w K mg base dF k f fd ps (iW 1 mf))(h: ∀ns:List Int,ns.length<=63->(∀i∈ns,Builtin.Int.intBits i<=2^20)->mf [.lst (ns.map .int)]=some (.bl true)):eD P w K mg base dF k f fd ps vB:=F.imp λ vs H Q E ⟨a,ns,ev,C,I,J,q⟩=>by subst ev;refine⟨rfl,λ _=>none,[.lst (ns.map .int)],.bl true,(λ a o z=>nomatch z),.cons (.mkL (Rd.mono (λ b o e=>fO.mpr ⟨(λ⟨_,z⟩=>nomatch z),e⟩) C) (kE ns)) .nil,h ns I J,λ v H' g r=>?_⟩;rw[r.bl];grind
end
end Jt
namespace Jt
open PySem PySem.W PySem.Calls PyProof.Rows L2
theorem Bx{ns:List Int}(h:WData.layableAll [WData.list (ns.map WData.int)]=true): ∀i∈ns,Builtin.Int.intBits i<=2^20:= λ i o=>by
 have C:=layableW_arg h _ List.mem_cons_self;have I:=layableW_item C (.int i) (List.mem_map.mpr ⟨i,o,rfl⟩);have J:=lay0_int I;have U:PyData.layable0 (.int i)=true:=by simpa[PyData.layableAll0]using J
 exact PyData.bits_of_layable U
theorem walkB{l:PySem.W.OpenLaw}{q:Program}{loose:List Str}{XP:(Str->Option Value)->Heap->Prop}{YP:World->Heap->Prop}{d:DefRec}{K:Params->PySem.W.Frag}{k:Nat}(hn:l.most=some 63)(ag:d.params.defaults=[])(hr:cX k callerA)
  (hY: ∀(w:World)(h:Heap),YP w h->(K w.params).In h)(hL: ∀w:World,HN (K w.params)=true)(hT: ∀w:World,PySem.W.tabIn (K w.params) v8=none)
  (F: ∀(w:World)(mg:Str->Option Value)(fa:Addr)(h:Heap),(K w.params).In h->h.Ns mainGlobals mg->mg d.name=some (.ref fa)->
   ∃fd:FuncData,(∀(s:Shared)(u:Value),BindsTo s fd ⟨[u],[]⟩ [("_law_script",u)])/\ ∀base:Heap,(K w.params).In base->base.Ns mainGlobals mg->eD l.prog w (K w.params) mg base dF k fa fd ["_law_script"] vB):
  PySem.W.WalkO q loose XP YP l.row.toRowW d [] (λ f vs=>PySem.call f vs):=by intro w ae af mg mb G Y fa o pm cd doc dV kV ho hd ah hD U hg args vals as C I ai aa aj;obtain⟨a,vs,ns,rfl,rfl,J,hints,hlen⟩:=Att.script_of hn C aa;have KX:=hY w _ Y;obtain⟨fd,hb,hF⟩:=F w mg fa _ KX G.T.g U;have bits:=Bx I;refine enter_call (codeAny_mono (AR KX G.T.g G.T.b G.T.builtins G.T.nolimit hg J hints (Nat.le_trans hlen (by decide)) hr hF hb (hT w) (λ H hO hS=>⟨a,ns,rfl,rd_of (hL w) hS,hlen,bits,λ _=>rfl⟩) λ H e s' z=>z) λ r s' hq=>?_);obtain⟨rfl,h2,h3,h4⟩:=hq;exact⟨.inl ⟨.bool true,.bool true,[],rfl,λ _=>rfl,.bool true,Att.post_true l _,λ _=>⟨List.Pairwise.nil,λ _ hm=>(nomatch hm)⟩⟩,h2,h3,h4⟩
end Jt
namespace Jt
open PySem L2
open PyProof.Rows (AllBare)
noncomputable def bX{α β:Type}(x:M (α⊕Addr))(f:α->M (β⊕Addr)):M (β⊕Addr):=do
 let r<- x
 match r with
 | .inl a=>f a
 | .inr C=>pure (.inr C)
noncomputable def pQ{α:Type}(x:M α):M (α⊕Addr):=do
 let a<- x
 pure (.inl a)
theorem jM{f:α->M (β⊕Addr)}{J o:DS}{r:β⊕Addr}(h:bX x f J=some (r,o)):(∃a I,x J=some (.inl a,I)/\f a I=some (r,o))\/ ∃C,x J=some (.inr C,o)/\r= .inr C:=by obtain⟨z,I,U,e⟩:=bind_some h;cases z with
 |inl a=>grind
 |inr C=>obtain⟨rfl,rfl⟩:=aZ e;grind
inductive NI (f:M (D ⊕ Addr)) (σ:St) (H:Hp) (Q:VK) (W:XW):Prop
 | mk (c:Ct) (δ:DS) (S:List D) (T:List V) (r:D ⊕ Addr) (δ':DS) (s:Sl c δ S σ T H) (e:f δ=some (r,δ')) (q:match (generalizing:=false) r with
 | .inl d=>∀ v H',Sl c δ' (d :: S) σ (v :: T) H' -> Q v H'
 | .inr C=>∀ H',Sl c δ' S σ T H' -> W σ (.ref C) H'):NI f σ H Q W
inductive Ob (f:M (List D ⊕ Addr)) (σ:St) (H:Hp) (Q:List V->Hp->Prop) (W:XW):Prop
 | mk (c:Ct) (δ:DS) (S:List D) (T:List V) (r:List D ⊕ Addr) (δ':DS) (s:Sl c δ S σ T H) (e:f δ=some (r,δ')) (q:match (generalizing:=false) r with
 | .inl ds=>∀ vs H',vs.length=ds.length->Sl c δ' (ds ++ S) σ (vs ++ T) H' -> Q vs H'
 | .inr C=>∀ H',Sl c δ' S σ T H' -> W σ (.ref C) H'):Ob f σ H Q W
inductive J4 (k:Bool) (f:M (Fl ⊕ Addr)) (En:Ends) (W:XW) (Wm:XW) (σ:St) (H:Hp):Prop
 | mk (c:Ct) (δ:DS) (S:List D) (T:List V) (r:Fl ⊕ Addr) (δ':DS) (s:Sl c δ S σ T H) (e:f δ=some (r,δ')) (q:match (generalizing:=false) r with
 | .inl fl=>Fin c δ' S T fl En
 | .inr C=>∀ σ' H',Sl c δ' S σ' T H' -> W σ' (.ref C) H' ∧ (k=true->Wm σ' (.ref C) H')):J4 k f En W Wm σ H
noncomputable abbrev Mg(X:Cx)(e:Expr)(f:M (D⊕Addr)):Prop:=Kh X e (NI f)
noncomputable abbrev Mb(X:Cx)(es:List Expr)(f:M (List D⊕Addr)):Prop:=Kd X es (Ob f)
noncomputable abbrev LX(X:Cx)(k:Bool)(st:Stmt)(f:M (Fl⊕Addr)):Prop:=Ic X st (J4 k f)
noncomputable abbrev rX(X:Cx)(k:Bool)(st:List Stmt)(f:M (Fl⊕Addr)):Prop:=o7 X st (J4 k f)
theorem Iv(h:Kh X e t)(w: ∀σ H Q W,t' σ H Q W->t σ H Q W):Kh X e t':= λ pins s σ H Q W I q=>h pins s σ H Q W I (w σ H Q W q)
theorem Ie(h:Kd X e t)(w: ∀σ H Q W,t' σ H Q W->t σ H Q W):Kd X e t':= λ ps pins s σ H Q W I q=>h ps pins s σ H Q W I (w σ H Q W q)
theorem xh(h:Ic X e t)(w: ∀D W o σ H,t' D W o σ H->t D W o σ H):Ic X e t':= λ pins s σ H D W o I q=>h pins s σ H D W o I (w D W o σ H q)
theorem AB(h:o7 X e t)(w: ∀D W o σ H,t' D W o σ H->t D W o σ H):o7 X e t':= λ pins s σ H D W o I q=>h pins s σ H D W o I (w D W o σ H q)
section
variable {X:Cx} {a e:Expr} {es:List Expr} {fa:M D} {fx:M (D ⊕ Addr)} {fxs:M (List D ⊕ Addr)} {fs:M (List D)} {pos p:Pos} {st:Stmt} {rest as bs:List Stmt} {f:M Fl} {g h:M (Fl ⊕ Addr)} {tt:M Bool} {k:Bool}
theorem eE(he:DE X.nox e fa):Mg X e (pQ fa):=Iv (Kl he) λ σ H Q W ⟨c,C,S,T,r,I,s,e,q⟩=>by obtain⟨d,o,J,e⟩:=bind_some e;obtain⟨rfl,rfl⟩:=aZ e;exact⟨c,C,S,T,d,o,s,J,q⟩
theorem jf:Mb X [] (pure (.inl [])):=Ie Gy λ σ H Q W ⟨c,C,S,T,r,o,s,e,q⟩=>by obtain⟨rfl,rfl⟩:=aZ e;grind
noncomputable def dX(fx:M (D⊕Addr))(fxs:M (List D⊕Addr)):M (List D⊕Addr):=bX fx λ x=>bX fxs λ xs=>pure (.inl (x::xs))
theorem cV(ha:Mg X a fx)(hr:Mb X es fxs)(hs:starEach (a::es) X.env=(false,eval a X.env)::starEach es X.env:=by rfl):Mb X (a::es) (dX fx fxs):=Ie (C5 ha hr hs) λ σ H Q W ⟨c,δ,S,T,r,I,s,e,q⟩=>by
 rcases jM e with⟨x,o,J,e⟩|⟨C,J,rfl⟩
 .refine⟨c,δ,S,T,.inl x,o,s,J,λ v H1 s1=>?_⟩;rcases jM e with⟨xs,U,e2,e⟩|⟨C,e2,rfl⟩
  .obtain⟨rfl,rfl⟩:=aZ e;exact⟨c,o,x::S,v::T,.inl xs,U,s1,e2,λ vs H2 l s2=>q (v::vs) H2 (by grind) (by have st:=s2.st;have h1:=st.right l;exact s2.stk (.cons h1.head ((st.left l).append h1.tail)))⟩
  .exact⟨c,o,x::S,v::T,.inr C,I,s1,e2,λ H2 s2=>q H2 s2.pop⟩
 .exact⟨c,δ,S,T,.inr C,I,s,J,q⟩
noncomputable def Iu(n:Nat)(mf:List D->Option (D⊕Addr)):Sp:= λ vs H Q E=>vs.length=n/\ ∃(Z:Hp) (ds:List D) (r:D⊕Addr),Kj Z H/\Rs (hz Z H) ds vs/\mf ds=some r/\match r with
 | .inl d=> ∀v H',jO H H'->R (hz Z H') d v->Q v H'
 | .inr C=> ∀H',jO H H'->E (.ref C) none H'
theorem A7{f:Addr}{fd:FuncData}{ps:List Str}{x:Str}{mf:List D->Option (D⊕Addr)}{n:Nat}(F:eD X.prog X.w X.K X.mg X.base (sV X.prog X.w) kk f fd ps (Iu n mf))(hr:cX kk X.A)(hm:X.mg x=some (.ref f))(hk:PySem.W.keepIn X.K (.ref f)=true)(hb:Binds X.K fd ps [])(ha:Mb X (a::es) fxs)
  (hg:Gl X x:=by rfl)(J:(x==("__debug__":Str))=false:=by decide)(he:starEach (a::es) X.env=(false,eval a X.env)::starEach es X.env:=by rfl)(U:(backTo pos (starEach es X.env)).any (·.1)=false:=by rfl):
  Mg X (.Call (.Name x p) (a::es) [] pos) (bX fxs λ ds=>lift (if ds.length=n then mf ds else none)):=Iv (Cj F hr hg hm hk hb ha J he U) λ σ H Q W ⟨c,δ,S,T,r,aa,s,e,q⟩=>by
 rcases jM e with⟨ds,I,e1,e⟩|⟨C,e1,rfl⟩
 .obtain⟨e2,rfl⟩:=bc e;refine⟨c,δ,S,T,.inl ds,I,s,e1,λ vs H1 l s1=>?_⟩;split at e2;. rename_i hn;refine⟨l.trans hn,D6 c I σ H1,ds,r,r8 s1,(s1.st.left l).mono (bP (λ a o _ z=>(gn s1 a).mp z) λ _ _ _ h=>h),e2,?_⟩;cases r with
   |inl d=>intro v H' g r;have s2:=s1.grow g;exact q v H' (s2.stk (.cons (r.mono (bP (λ a o _ z=>(gn s1 a).mpr z) λ _ _ _ h=>h)) (s2.st.right l)))
   |inr C=>exact λ H' g=>q H' ((s1.grow g).drop l)
  grind
 .exact⟨c,δ,S,T,.inr C,aa,s,e1,q⟩
theorem Dr(hs:qe X.nox st f):LX X k st (pQ f):=xh (JQ hs) λ D W Wm σ H ⟨c,C,S,T,r,I,s,e,q⟩=>by obtain⟨J,o,U,e⟩:=bind_some e;obtain⟨rfl,rfl⟩:=aZ e;exact⟨c,C,S,T,J,o,s,U,q⟩
theorem gI(he:Mg X e fx)(hs:swapsWith e none pos.line X.env=pure false:=by rfl):LX X k (.Expr e pos) (bX fx λ _=>pure (.inl .nx)):=xh (Dg he hs) λ D W Wm σ H ⟨c,U,S,T,r,o,s,e,q⟩=>by
 rcases jM e with⟨d,I,J,e⟩|⟨C,J,rfl⟩
 .obtain⟨rfl,rfl⟩:=aZ e;exact⟨c,U,S,T,.inl d,I,s,J,λ v H' s'=>q _ _ s'.pop⟩
 .exact⟨c,U,S,T,.inr C,o,s,J,λ H' s'=>(q σ H' s').1⟩
theorem vQ(I:DT X.nox t tt)(J:rX X k as g)(U:rX X k bs h):LX X k (.If t as bs pos) (eY tt g h):=xh (Js I J U) λ D W Wm σ H ⟨c,δ,S,T,r,C,s,e,q⟩=>by obtain⟨x,o,e1,e⟩:=bind_some e;refine⟨c,δ,S,T,x,o,s,e1,λ H' s'=>?_⟩;cases x with
 |true=>exact⟨c,o,S,T,r,C,s',e,q⟩
 |false=>exact⟨c,o,S,T,r,C,s',e,q⟩
noncomputable def fA(f g:M (Fl⊕Addr)):M (Fl⊕Addr):=bX f λ o=>match o with
 | .nx=>g
 |o=>pure (.inl o)
theorem ml:rX X k [] (pure (.inl .nx)):=AB Dx λ D W C σ H ⟨c,I,S,T,r,o,s,e,q⟩=>by obtain⟨rfl,rfl⟩:=aZ e;exact q σ H s
theorem gK(h1:LX X k st g)(h2:rX X k rest h):rX X k (st::rest) (fA g h):=AB (yU h1 h2) λ D W Wm σ H ⟨c,δ,S,T,r,o,s,e,q⟩=>by
 rcases jM e with⟨I,J,U,e⟩|⟨C,U,rfl⟩
 .refine⟨c,δ,S,T,.inl I,J,s,U,?_⟩;cases I with
  |nx=>exact λ aa H' s'=>⟨c,J,S,T,r,o,s',e,q⟩
  |bk=>obtain⟨rfl,rfl⟩:=aZ e;exact q
  |ct=>obtain⟨rfl,rfl⟩:=aZ e;exact q
  |rt d=>obtain⟨rfl,rfl⟩:=aZ e;exact q
  |rf xs=>obtain⟨rfl,rfl⟩:=aZ e;exact q
 .exact⟨c,δ,S,T,.inr C,o,s,U,q⟩
theorem eC(o:LX X k st g):rX X k [st] (fA g (pure (.inl .nx))):=gK o ml
noncomputable def nX(C:Addr)(fs:M (List D)):M (Fl⊕Addr):=do
 let ds<- fs
 let _<- lift (few ds.length)
 pure (.inr C)
theorem qg{B newId o:String}{bm:List Value}{np I:Pos}(FB:ExcBaseFacts B newId o bm)(hm:X.mg x=some (.ref C))(hC:PySem.W.excIn X.K C bm newId=true)(ha:DA X.nox (a::es) fs)(hc:X.calm=true:=by rfl)(hg:Gl X x:=by rfl)
  (J:(x==("__debug__":Str))=false:=by decide)(he:starEach (a::es) X.env=(false,eval a X.env)::starEach es X.env:=by rfl)(U:(backTo I (starEach es X.env)).any (·.1)=false:=by rfl):
  LX X true (.Raise (some (.Call (.Name x np) (a::es) [] I)) none pos) (nX C fs):=xh (yJ FB hc hg hm hC ha J he U) λ D W Wm σ H ⟨c,δ,S,T,r,ab,s,e,q⟩=>by
 obtain⟨ds,aa,e1,e⟩:=bind_some e;obtain⟨u,ae,e2,e⟩:=bind_some e;obtain⟨rfl,rfl⟩:=aZ e;obtain⟨e3,rfl⟩:=bc e2;have hn:ds.length<=100000:=by unfold few at e3;simp_all
 refine⟨c,δ,S,T,ds,aa,s,e1,λ vs H' l s'=>⟨?_,(q σ H' (s'.drop l)).2 rfl⟩⟩;rw[l];exact Nat.le_trans hn (by decide)
end
theorem ET(h:o7 X J t)(hx:X.ex=[])(C:X.stack=X.env::X.outer)(hf:X.env.frame=some X.env.locals)
  (U: ∀e s',wpAny (model X.prog X.w) X.A (leaving X.env e) (λ _ o=>sV X.prog X.w X.outer X.H₀ X.s₀ E e o) (λ e' o=>sV X.prog X.w X.outer X.H₀ X.s₀ E e' o) s'->X.xe e s'):oI X J (λ D σ H=>t D (λ _ c H'=>E c none H') (λ _ c H'=>E c none H') σ H):= λ pins s σ H D I q=>
 wpAny_mono (h pins s σ H D _ _ I q) (λ _ _ z=>z) λ e s' z=>U e s' (by
  rcases z with⟨aa,H1,s1,I1,z⟩|⟨aa,H1,s1,a,cls,args,h',I1,rfl,hm,rfl,z⟩
  .exact Cg I1 hx C hf z (λ _ _ y=>y) λ o y=>y
  .exact wI I1 hx C hf hm z λ o y=>y)
noncomputable def eU(N:List Str)(body:M (Fl⊕Addr))(ds:List D):Option (D⊕Addr):=match body (entry N ds)with
 |some (.inl (.rt d),_)=>some (.inl d)
 |some (.inl .nx,_)=>some (.inl .non)
 |some (.inr C,_)=>some (.inr C)
 |_=>none
section
variable {P:Program} {w:World} {K:PySem.W.Frag} {mg:Str->Option Value} {base:Heap} {k:Nat} {f:Addr} {fd:FuncData} {N ps:List Str} {x qual:Str} {st:Stmt} {body:M (Fl ⊕ Addr)}
theorem fnX(F:zZ K x qual st f fd)(S:bf N ps (aW st))(I: ∀(cdv:Value)(A:Around)(outer:List Env)(s:Shared)(H:Hp)(E:XK),cX k (A.deeper (PyProof.Rows.envOfC qual (aW st) s.heap.objs.size f cdv))->rX (ir (sV P w) P w K mg base N qual (aW st) f cdv A outer s H E) true (cq st) body):
  eD P w K mg base (sV P w) (k+1) f fd ps (Iu ps.length (eU N body)):=by
 obtain⟨oc,od,kV,doc,pm,an,cdv,ct,af,rfl,lk,ab⟩:=F.ex;refine HA lk ab S (λ vs H Q E h=>h.1) λ A outer s H vs Q E hr h=>?_;refine⟨_,ET (E:=E) (I cdv A outer s H E hr) rfl rfl rfl (λ e s' z=>z),?_⟩;obtain⟨hl,Z,ds,r0,hZ,r,e,q⟩:=h;have ae:ps.length<=N.length:=by have:=congrArg List.length S.pre;rw[List.length_take]at this;omega
 have s0:=ny (N:=N) hZ r (by rw[hl];exact ae);unfold eU at e;split at e;. rename_i d J U;cases e;exact⟨_,_,_,_,_,_,s0,U,λ v aa H' s'=>q v H' (λ b o I=>s'.keep b o (by simp) I) (s'.st.head.mono (bP (λ a o _ z=> .inl z) λ _ _ _ h=>h))⟩
 .rename_i J U;cases e;exact⟨_,_,_,_,_,_,s0,U,λ aa H' s'=>q .non H' (λ b o I=>s'.keep b o (by simp) I) .mkN⟩
 .rename_i C J U;cases e;exact⟨_,_,_,_,_,_,s0,U,λ aa H' s'=>⟨q H' λ b o I=>s'.keep b o (by simp) I,λ _=>q H' λ b o I=>s'.keep b o (by simp) I⟩⟩
 grind
end
noncomputable def hx(X:Cx)(a:Addr)(o:Obj):Cx:={ X with A:=X.A.mark (some (.ref a)),calm:=false,pn:=(a,o)::X.pn,xe:= λ _ _=>False }
noncomputable def D5(cls:Value)(o:Obj):Prop:= ∃t T,o={ xB cls with data:= .fields ((Eh t).setIfInBounds 1 (.ref T)) }
noncomputable def Qj(D:Ends)(i:Nat):Ends:={ nx:= λ σ H=>D.nx (σ.set i none) H,rt:=D.rt,bk:= λ σ H=>D.bk (σ.set i none) H,ct:= λ σ H=>D.ct (σ.set i none) H }
section
variable {X:Cx} {pins:List (Addr × Obj)} {σ:St} {H:Hp} {s:Shared}
theorem ML(I:Inv X pins σ H s)(e:s.heap.get? a=some o)(n:H a=none)(nl:a≠X.env.locals)(J:a∉X.fs)(d: ∀v,o.data≠ .cell v):Inv (hx X a o) pins σ H s:=by
 have ok:=I.ok;refine⟨⟨ok.mod,ok.kind,ok.glob,ok.blt,ok.above,ok.inj,ok.has,ok.cab,(λ z=>Bool.noConfusion z),ok.frames,ok.stk,ok.exf,ok.bs,ok.bsz,ok.noex,ok.exfs,ok.funs,ok.frf,ok.tb⟩,I.os,I.bare,I.base,I.loc,I.cell,I.free,I.freeC,λ p C=>?_,I.hok,I.len⟩;rcases List.mem_cons.mp (show p∈(a,o)::(X.pn++pins)from C)with rfl|C
 .exact⟨e,n,nl,J,d⟩
 .exact I.pin p C
theorem r_(ok:X.Ok)(I:Inv (hx X a o) pins σ H s):Inv X pins σ H s:=
 ⟨ok,I.os,I.bare,I.base,I.loc,I.cell,I.free,I.freeC,λ p C=>I.pin p (List.mem_cons_of_mem _ C),I.hok,I.len⟩
theorem jR{Q:Unit->Shared->Prop}{i:Nat}{n:Str}{pos:Pos}(I:Inv X pins σ H s)(hN:X.N.Nodup)(hi:X.N[i]?=some n)(hk:X.env.kindOf n=some .local)(h: ∀s',Inv X pins (σ.set i none) H s'->Q () s'):
  wpAny (model X.prog X.w) A (do bindName X.env n .none;unbindBehindTheSuite X.env n pos) Q E s:=by
 obtain⟨m,hn,hl⟩:=id I.loc;have J:(X.env.scope.kind== .class||(X.env.scope.kind== .module&&X.env.locals !=X.env.globals))=false:=by rw[I.ok.kind];rfl
 have U:i<σ.length:=by rw[I.len];exact(List.getElem?_eq_some_iff.mp hi).1
 have cne:=I.cne;have tracked: ∀{h':Heap},Heap.SameBut X.env.locals s.heap h'->lh X.prog X.w H h':= λ{h'} hs b ob e=>by have aa:=I.free;refine(I.hok b ob e).stay (λ c w' hc q=>(hs.2 c ?_).trans q) (λ _ q=>q) λ _ _ q=>q;grind
 refine wpAny_nameGoes_keeps hk hn J λ h' v ab hs=>h _ ⟨I.ok,I.os,I.bare,⟨λ b o e n hb hx=>?_,λ b o e n hb hx=>?_,I.base.free,λ b o e hx=>?_,I.base.tups,I.base.frzs,I.base.tbls⟩,⟨_,ab,λ j y v' C e2 e3=>?_⟩,λ y c e=>?_,I.free,I.freeC,λ p hp=>?_,tracked hs,by simpa using I.len⟩;. exact(hs.2 b (Nat.ne_of_lt (Nat.lt_of_lt_of_le (Heap.lt_size e) I.ok.above))).trans (I.base.keep b o e n hb hx)
 .obtain⟨sl,C⟩:=I.base.slot b o e n hb hx;exact⟨sl,(hs.2 b (Nat.ne_of_lt (Nat.lt_of_lt_of_le (Heap.lt_size e) I.ok.above))).trans C⟩
 .obtain⟨o',C⟩:=I.base.there b o e hx;exact⟨o',(hs.2 b (Nat.ne_of_lt (Nat.lt_of_lt_of_le (Heap.lt_size e) I.ok.above))).trans C⟩
 .by_cases hj:j=i;. subst hj;rw[List.getElem?_set_self U]at e2;cases e2
  .rw[List.getElem?_set_ne (Ne.symm hj)]at e2;obtain⟨u',r',q⟩:=hl j y v' C e2 e3;refine⟨u',r',?_⟩;rcases q with⟨k,e⟩|⟨k,c,e,z⟩
   .refine .inl ⟨k,?_⟩;have:y≠n:= λ e=>hj (oB hN C (e▸hi));simp[this,e]
   .exact .inr ⟨k,c,e,z.sameBut hs (cne y c e)⟩
 .obtain⟨w',z⟩:=I.cell y c e;exact⟨w',z.sameBut hs (cne y c e)⟩
 .obtain⟨e,n,ne,nf,d⟩:=I.pin p hp;exact⟨(hs.2 p.1 ne).trans e,n,ne,nf,d⟩
end
section
variable {X:Cx} {body sts:List Stmt} {b0:Stmt} {x n:Str} {C0:Addr} {i:Nat} {tb:PN} {th:Addr->Value->TS} {p hpos pos:Pos} {Adm:Value->Prop}
theorem KS(hN:X.N.Nodup)(J:X.stack=X.env::X.outer)(hf:X.env.frame=some X.env.locals)(hb:o7 X body tb)(hg:Gl X x)(hm:X.mg x=some (.ref C0))(hi:X.N[i]?=some n)(hl:X.env.kindOf n=some .local)
  (ag: ∀cls,Adm cls->PySem.W.exmOne X.K cls (.ref C0)=some true)(hh: ∀a o cls,D5 cls o->Adm cls->oI (hx X a o) (b0::sts) (th a cls))(aj:(x==("__debug__":Str))=false:=by decide):
  PS X (.Try body [.ExceptHandler (some (.Name x p)) (some n) (b0::sts) hpos] [] [] pos)
   (λ D σ H=>tb D (λ ak cls H'=>Adm cls/\ ∀a,H' a=none->th a cls (Qj D i) (ak.set i (some (.ref a))) H') (λ _ _ _=>False) σ H):=by
 intro pins s σ H D I h;refine wpAny_Try_except (wpAny_mono (hb pins s σ H D _ _ I h) (λ f s1 hq=>?_) λ e s1 he=>?_);. cases f with
  |next=>exact wpAny_execs_nil hq
  |brk=>exact hq
  |cont=>exact hq
  |ret u=>exact hq
 rcases he with⟨ab,H1,s0,I1,a,cls,t,B,H',rfl,os,bare,F,fl,aa,hw⟩|⟨ab,H1,s0,a,cls,args,h',I1,rfl,_,_,z⟩
 rotate_left;. exact False.elim z
 rw[J]at fl;have ao:s1.heap.FunFrames B X.stack:=by rw[J];exact fl.fr
 refine xO (by rw[I.ok.frames,J]) hf fl λ h2 ae up2=>?_;have F2:=F.move ae.st up2 ao;have aq:h2.FunFrames B X.stack:=by rw[J];exact ae.fr
 refine l_ ae λ h3 U ar=>?_;have F3:=F2.move U.st ar aq;have au:h3.FunFrames B X.stack:=by rw[J];exact U.fr
 have ah:H' a=none:=by cases q:H' a with
  |none=>rfl
  |some o=>obtain⟨o',e'⟩:=F.hB a o q;rw[fl.ne]at e';cases e'
 have inv: ∀(h5:Heap),Fx B (X.env::X.outer) a (xB cls) (Eh t) .none h5->yM X.prog X.w X.stack H1 H' s0.heap h5 B-> ∃o,D5 cls o/\h5.get? a=some o/\Inv (hx X a o) pins ab H' { s1 with heap:=h5 }:= λ h5 f5 F5=>by
  have I5:Inv X pins ab H' { s1 with heap:=h5 }:=I1.call' (ch:=[]) os F5.un F5.hok bare λ b z=>nomatch z;obtain⟨T,oT,ts,C,_⟩:=f5.tr;refine⟨_,⟨t,T,rfl⟩,C,ML I5 C ah ?_ ?_ λ v z=>nomatch z⟩;. rintro rfl;obtain⟨m,⟨o,es,ep,ho,hd,_⟩,_⟩:=I5.loc;have:=ho.symm.trans C;cases this;cases hd
  .intro hm;have:a∈iR (X.env::X.outer):=by unfold iR;rw[List.filterMap_cons,hf];exact List.mem_cons_of_mem _ hm
   obtain⟨_,o,ho,ax⟩:=f5.fr.mem this;simp_all
 obtain⟨o3,_,e3,I3⟩:=inv h3 U F3;have av:o3.cls=cls:=by obtain⟨T,oT,ts,C,_⟩:=U.tr;rw[e3]at C;cases C;rfl
 refine wpAny_handleBy_cons (codeAny_handlers_test (jm (X:=hx X a o3) I3 hg hm ?_ aj)) (by intro q;cases q);have LT:PySem.W.Looks (model X.prog X.w) h3 (typeOf (.ref a)) cls:=av▸(PySem.W.Looks.ld e3).andThen .now;refine(PySem.W.exm_one (M:=model X.prog X.w) I3.kIn LT (ag cls aa)).at ?_;refine codeAny_handlers_suite_as ?_;refine l_ U λ h6 ai aw=>?_;have F6:=F3.move ai.st aw au;obtain⟨o6,x6,e6,I6⟩:=inv h6 ai F6;refine mZ (X:=hx X a o6) (i:=i) (v:= .ref a) I6 hN hi (.inl hl) rfl (λ s7 I7=>?_) (.inr hl);refine wpAny_mono (hh a o6 cls x6 aa pins s7 _ H' (Qj D i) I7 (hw a ah)) (λ f s8 hq=>?_) λ _ _ z=>False.elim z;cases f with
 |next=>obtain⟨af,H8,I8,q⟩:=hq;exact jR (r_ I.ok I8) hN hi hl λ s9 I9=>⟨_,H8,I9,q⟩
 |brk=>obtain⟨af,H8,I8,q⟩:=hq;exact jR (r_ I.ok I8) hN hi hl λ s9 I9=>⟨_,H8,I9,q⟩
 |cont=>obtain⟨af,H8,I8,q⟩:=hq;exact jR (r_ I.ok I8) hN hi hl λ s9 I9=>⟨_,H8,I9,q⟩
 |ret u=>obtain⟨v,af,H8,I8,r,q⟩:=hq;exact jR (r_ I.ok I8) hN hi hl λ s9 I9=>⟨v,_,H8,I9,r,q⟩
end
end Jt
namespace Jt
open PySem L2
open PySem.W (nd_bind Looks InstAt findIn specialIn takesIn mroIn clsIn findObj looks_findIn looks_find looks_mroIn KitX kitOne kitCls class_get)
section
variable {prog:Program} {w:World} {A:Around} {E:Value->Shared->Prop} {s:Shared} {K:PySem.W.Frag} {x D:Addr} {ox:Obj}
theorem Gz(o:(clsIn K D).isSome=true)(C:findIn K (.ref D) name=some (some a))(I:specialIn K a "__get__"=some (some g))(J:takesIn K a=some true):findObj K D none name=some (.bind g a):=by obtain⟨cd,o⟩:=Option.isSome_iff_exists.mp o;unfold findObj;grind
structure oJ (K:PySem.W.Frag) (D:Addr):Prop where
 c:(clsIn K D).isSome=true
 ga:findIn K (.ref D) "__getattribute__" = some (some (.builtin "BaseException.__getattribute__"))
 gt:findIn K (.ref D) "__getattr__" = some none
 cl:findIn K (.ref D) "__class__" = some (some (.builtin "object.__class__"))
 ge:specialIn K (.builtin "object.__class__") "__get__" = some (some (.builtin "getset_descriptor.__get__"))
 tk:takesIn K (.builtin "object.__class__")=some true
 mo:mroIn K D (.type "object")=some true
 mb:mroIn K D (.type "BaseException")=some true
theorem LB{Q:Value->Shared->Prop}(F:oJ K D)(X:K.In s.heap)(I:InstAt s.heap x ox D none)(h:Q (.ref D) s):wpAny (model prog w) A (call (.builtin "BaseException.__getattribute__") [.ref x,.str "__class__" tk]) Q E s:=by
 obtain⟨J,g,d,t,os⟩:=s;have U:=I.type (M:=model prog w);have L1:=looks_mroIn (M:=model prog w) X F.mb;have L2:=looks_find (M:=model prog w) X I (Gz F.c F.cl F.ge F.tk);have C:builtinKind "BaseException.__getattribute__"=some .slot:=by decide+kernel
 have o:splitId "BaseException.__getattribute__"=some ("BaseException","__getattribute__"):=by decide+kernel
 have ha:=PySem.F.args_bexc_ga (.ref x) (.str "__class__" tk);refine wpAny_call (codeAny_call_builtin PySem.F.attr_ValueError.ga.plain PySem.F.entry_bexc_ga ?_);simp only[checkBuiltinCall,C,o];refine wpAny_bind ?_;. unfold isInstance;(repeat(first|with_reducible refine wpAny_call (class_get (ox:=ox) (od:=none) X I F.mo ?_)|lk|wp_step));exact h
theorem zB(F:oJ K D)(X:K.In s.heap)(I:InstAt s.heap x ox D none)(h:Q (some (.ref D)) { s with toks:=s.toks+1 }):wpAny (model prog w) A (getAttr? (.ref x) "__class__") Q E s:=by
 obtain⟨hh,g,d,t,os⟩:=s;have J:=I.type (M:=model prog w);have U:=looks_findIn (M:=model prog w) X F.ga;have L2:=looks_findIn (M:=model prog w) X F.gt;have o:(Value.builtin "BaseException.__getattribute__"==Value.builtin "object.__getattribute__")=false:=by decide+kernel
 have C:(onTheHeap (Value.ref D)&&Value.builtin "BaseException.__getattribute__"==Value.builtin "object.__getattribute__")=false:=by rw[o];rfl
 have hb:=PySem.F.attr_ValueError.ga.bind (.ref x);unfold getAttr? getAttrBy? getAttrBy;refine wpAny_bind (wpAny_mkText (wpAny_bind (wpAny_attempt (wpAny_holding (wpAny_bind (J.at (wpAny_bind (U.at ?_))))))));dsimp only;rw[if_neg (by rw[C];decide)];refine wpAny_bind (L2.at (wpAny_bind (wpAny_attempt (wpAny_holding ?_))));refine LB (ox:=ox) F X I ?_;exact wpAny_pure (wpAny_pure h)
theorem D2(F:oJ K D):KitX K (.ref x) (.ref D) (λ h=>InstAt h x ox D none) where
 ty:= λ _ _ _ I=>I.type
 it:= λ _ _ X _=>by
  obtain⟨C,o⟩:=Option.isSome_iff_exists.mp F.c;unfold clsIn at o;split at o;. rename_i c' d' J U ho;intro A' Q' E' s' k q;exact wpAny_bind (wpAny_loadPart (k _ _ (X _ _ ho)) (wpAny_pure q))
  .cases o
 ne:= λ h tp dd its n sl X aa=>by
  obtain⟨C,o⟩:=Option.isSome_iff_exists.mp F.c;refine Bool.eq_false_iff.mpr λ q=>?_;have e:D=tp:=Value.ref.inj (beq_iff_eq.mp q);subst e;unfold clsIn at o;split at o;. rename_i c' d' J U ho;have z:=(X _ _ ho).symm.trans aa;cases z
  simp_all
 ca:= λ X I k=>zB F X I k
theorem Bq{o:Obj}(z:D5 (.ref D) o)(e:h.get? x=some o):InstAt h x o D none:=by obtain⟨t,T,rfl⟩:=z;exact⟨e,rfl,rfl,trivial⟩
end
end Jt
namespace Jt
open PySem L2
open PySem.SeqAt (list_countAt list_indexAt)
section
variable {X:Cx}
noncomputable def HV:Value->Bool
 | .bool b=>b
 |_=>false
theorem r9: ∀{bs:List Bool}{us:List Value},Vals (bs.map V.bl) us->us=bs.map Value.bool
 |[],_,.nil=>rfl
 |b::bs,_,.cons r rs=>by rw[r9 rs,r];rfl
theorem wM(bs:List Bool):(bs.map Value.bool).countP HV=bs.count true:=by induction bs with
 |nil=>rfl
 |cons b bs o=>rw[List.map_cons,List.countP_cons,o];cases b <;> simp[HV]
noncomputable def rJ:V->List V->Hp->VK->Prop:= λ x vs H Q=> ∃(l:Addr) (bs:List Bool),x= .ref l/\vs=[.bl true]/\H l=some (.lst (bs.map V.bl))/\Q (.int (bs.count true)) H
theorem yI:OT X "list.count" rJ:=by
 intro pins s σ H x vs v us Q I o C h;obtain⟨l,bs,rfl,rfl,J,q⟩:=h;cases o;obtain⟨u,rfl,U⟩:=C.one;cases U;obtain⟨z,its,n,r,hl,e⟩:=I.lstM J;have hv:=r9 r;subst hv;refine call_meets F.slot_list_count ⟨_,e,rfl⟩ F.entry_list_count (F.args_list_count_2 _ _) (list_countAt l _ n none #[] (.bool true) HV) ⟨e,λ y hy=>?_,?_⟩;. obtain⟨b,_,rfl⟩:=List.mem_map.mp (show y∈bs.map Value.bool by simpa using hy);have:=PySem.SeqAt.EqAt.bool_bool (A:=X.A.in1) (s:=s) b true;simpa[HV]using this
 .exact⟨.int (bs.count true),H,I.tok _,⟨_,by rw[wM]⟩,q⟩
noncomputable def yi:V->List V->Hp->VK->Prop:= λ x vs H Q=> ∃(l:Addr) (bs:List Bool) (j:Nat),x= .ref l/\vs=[.bl true]/\H l=some (.lst (bs.map V.bl))/\bs.length<1000/\bs[j]?=some true/\(∀m,m<j->bs[m]?=some false)/\Q (.int j) H
theorem zM:OT X "list.index" yi:=by
 intro pins s σ H x vs v us Q I rx rv h;obtain⟨l,bs,j,rfl,rfl,hH,hlen,U,o,q⟩:=h;cases rx;obtain⟨u,rfl,ru⟩:=rv.one;cases ru;obtain⟨z,its,n,r,hl,e⟩:=I.lstM hH;have hv:=r9 r;subst hv;have C:j<bs.length:=(List.getElem?_eq_some_iff.mp U).1;refine call_meets F.slot_list_index ⟨_,e,rfl⟩ F.entry_list_index (F.args_list_index_2 _ _) (list_indexAt l _ n none #[] (.bool true) HV j (by simpa using C) (by omega) ?_ ?_) ⟨e,λ y hy=>?_,?_⟩;. have:=(List.getElem?_eq_some_iff.mp U).2;simp[HV,this]
 .intro m hm J;have:=(List.getElem?_eq_some_iff.mp (o m J)).2;simp[HV,this]
 .obtain⟨b,_,rfl⟩:=List.mem_map.mp (show y∈bs.map Value.bool by simpa using hy);have:=PySem.SeqAt.EqAt.bool_bool (A:=X.A.in1) (s:=s) b true;simpa[HV]using this
 .exact⟨.int j,H,I.tok _,⟨_,rfl⟩,q⟩
noncomputable def sf(i:Nat)(a:Addr)(b:Bool):TE:= λ σ H Q=>σ[i]?=some (some (.ref a))/\Q (.bl b) H
theorem uy{a D:Addr}{o:Obj}{vc:V}{c:Value}{b:Bool}(F:oJ X.K D)(C:(a,o)∈X.pn)(z:D5 (.ref D) o)(rc: ∀u,RelV vc u->u=c)(e:PySem.W.kitOne X.K (.ref D) c=some b):du X (.builtin "isinstance") (λ xs H Q=>xs=[.ref a,vc]/\Q (.bl b) H):=by intro pins s σ H xs us Q I J h;obtain⟨rfl,q⟩:=h;obtain⟨u1,u2,rfl,U,r2⟩:=J.two;cases U;have:=rc _ r2;subst this;obtain⟨e1,_⟩:=I.pin (a,o) (List.mem_append_left _ C);exact PySem.W.kia_one (D2 F) I.kIn (Bq z e1) e (λ z=>nomatch z) λ tk=>⟨.bl b,H,I.tok _,rfl,q⟩
theorem B9(o:Gl X x)(hm:X.mg x=some (.ref C))(hd:(x==("__debug__":Str))=false:=by decide):PE X (.Name x pos) (tC (.ref C)):=
 λ _ _ _ H _ I h=>jm I o hm ⟨.ref C,H,I,rfl,h⟩ hd
theorem JB{a D C:Addr}{o:Obj}{x y:Str}{p1 p2 pos pf:Pos}{b:Bool}(F:oJ X.K D)(hp:(a,o)∈X.pn)(z:D5 (.ref D) o)(e:PySem.W.kitOne X.K (.ref D) (.ref C)=some b)(J:X.mg "isinstance"=none)(hm:X.mg y=some (.ref C))
  (hN:X.N[i]?=some x:=by rfl)(hv:u5 X.env.scope x:=by first | exact Or.inl rfl | exact Or.inr (Or.inl rfl) | exact Or.inr (Or.inr rfl))(U:Gl X "isinstance":=by rfl)(hg:Gl X y:=by rfl)(hd:(x==("__debug__":Str))=false:=by decide)(aa:(x==("__classdict__":Str))=false:=by decide)(hd2:(y==("__debug__":Str))=false:=by decide):
  PE X (.Call (.Name "isinstance" pf) [.Name x p1,.Name y p2] [] pos) (sf i a b):=
 λ pins s σ H Q I h=>fo (uy F hp z (vc:= .ref C) (c:= .ref C) (λ _ r=>r) e) U J (by rfl) (bu (dP hN hv hd aa) (bu (B9 hg hm hd2) da)) (by decide) (by rfl) rfl rfl pins s σ H Q I ⟨_,h.1,rfl,h.2⟩
theorem GD{a D:Addr}{o:Obj}{x y:Str}{T:String}{p1 p2 pos pf:Pos}{b:Bool}(F:oJ X.K D)(hp:(a,o)∈X.pn)(z:D5 (.ref D) o)(e:PySem.W.kitOne X.K (.ref D) (.type T)=some b)(C:X.mg "isinstance"=none)(hm:X.mg y=none)(J:bootBuiltins y=some (.type T))
  (hN:X.N[i]?=some x:=by rfl)(hv:u5 X.env.scope x:=by first | exact Or.inl rfl | exact Or.inr (Or.inl rfl) | exact Or.inr (Or.inr rfl))(U:Gl X "isinstance":=by rfl)(hg:Gl X y:=by rfl)(hd:(x==("__debug__":Str))=false:=by decide)(aa:(x==("__classdict__":Str))=false:=by decide)(hd2:(y==("__debug__":Str))=false:=by decide)(ab:y≠"__name__":=by decide):
  PE X (.Call (.Name "isinstance" pf) [.Name x p1,.Name y p2] [] pos) (sf i a b):=
 λ pins s σ H Q I h=>fo (uy F hp z (vc:= .ty T) (c:= .type T) (λ _ r=>r) e) U C (by rfl) (bu (dP hN hv hd aa) (bu (yj (v:= .ty T) hg hm J rfl ab hd2) da)) (by decide) (by rfl) rfl rfl pins s σ H Q I ⟨_,h.1,rfl,h.2⟩
end
end Jt
namespace Jt
open PySem L2 PySem.Spec PyProof.Rows
structure Rm (k:Nat) (A:Around):Prop where
 dp:A.depth + 3 * k + 5 < recursionLimit
 un:A.units + 16 * k + 200 < cLine
theorem L8(r:cX k A):Rm k A:=⟨r.dp,r.un⟩
theorem Rm.mark(r:Rm k A)(h:Option Value):Rm k (A.mark h):=⟨r.dp,r.un⟩
theorem Rm.depth(r:Rm k A):A.depth<recursionLimit:=by have:=r.dp;omega
structure OB (P:Program) (w:World) (K:PySem.W.Frag) (mg:Str->Option Value) (base:Heap) (k:Nat) (f:Addr) (fd:FuncData) (ps:List Str) (D:Addr) (res:V):Prop where
 run:∀ (A:Around) (outer:List Env) (s:Shared) (H:Hp) (args:Args) (a:Addr) (o:Obj) (Q:VK),Rm k A->A.handled=some (.ref a)->zx P w K mg base A outer s H->BindsTo s fd args (ps.zip [.ref a])->D5 (.ref D) o->s.heap.get? a=some o->H a=none->a ∉ iR outer ->
  (∀ H',jO H H' -> Q res H')->codeAny (model P w) A (.call (.ref f) args) (CR dF outer P w H s Q fun _ _ _=>False) s
noncomputable def NG(P:Program)(w:World)(K:PySem.W.Frag)(C:Str->Option Value)(base:Heap)(N:List Str)(qual:Str)(scope:Scope)(f:Addr)(cd:Value)(A:Around)(outer:List Env)(s:Shared)(H:Hp)(a:Addr)(o:Obj):Cx:=
 { ir dF P w K C base N qual scope f cd A outer s H (λ _ _ _=>False)with calm:=false,pn:=[(a,o)],xe:= λ _ _=>False }
section
variable {P:Program} {w:World} {K:PySem.W.Frag} {mg:Str->Option Value} {base:Heap} {k:Nat} {f:Addr} {fd:FuncData} {N ps:List Str} {x qual:Str} {st:Stmt} {D:Addr} {res:V}
theorem Qp(F:zZ K x qual st f fd)(S:bf N ps (aW st))(af:ps.length=1)
  (ab: ∀(cdv:Value)(A:Around)(outer:List Env)(s:Shared)(H:Hp)(a:Addr)(o:Obj),D5 (.ref D) o->A.handled=some (.ref a)-> ∃t,oI (NG P w K mg base N qual (aW st) f cdv A outer s H a o) (cq st) t/\ ∀Q:VK,(∀H',jO H H'->Q res H')->t { nx:= λ _ H'=>Q .non H',rt:=Q } (start N [.ref a]) H):
  OB P w K mg base (k+1) f fd ps D res:=by
 obtain⟨oc,od,kV,doc,pm,an,cdv,ct,ai,rfl,lk,ag⟩:=F.ex;refine⟨λ A outer s H args a o Q hr hh C hb z ea na nf hQ=>?_⟩;have KX:K.In s.heap:=C.mod.kin.keeps λ b o e=>(C.bs b o e).1;have lim:s.heap.NoLimit:=C.mod.nolimit.keeps λ b o e=>(C.bs b o e).1;have ae: ∀y∈ps.zip [Value.ref a],(aW st).names.lookup y.1=some .local\/((aW st).names.lookup y.1=some .cell/\((cellsFrom (s.heap.objs.size+1) (aW st).names []).lookup y.1).isSome=true):= λ⟨n,v⟩ hy=>by
  rcases S.par n (List.of_mem_zip hy).1 with q|q
  .exact .inl q
  .exact .inr ⟨q,PySem.W.cellsFrom_some _ _ _ (.inl q)⟩
 refine codeAny_call_function hr.depth (KX _ _ lk) rfl S.co S.gen rfl (PySem.W.codeRec_of KX ag) (hb _ _ _ _ ?_);refine wpAny_newFunctionEnv_cells S.kind ae λ env he s1 x=>?_;subst he;refine⟨lim.keeps x.toInCall.keep,codeAny_func ?_⟩;obtain⟨t,ht,hq⟩:=ab cdv A outer s H a o z hh;have ah:zx P w K mg base { A with handled:=none } outer s H:=⟨C.frames,C.mod,C.bs,C.bsz,C.funs,C.frf,C.hok,C.bare,C.tb⟩;have U:L2.Inv (ir dF P w K mg base N qual (aW st) f cdv { A with handled:=none } outer s H λ _ _ _=>False) [] (start N [.ref a]) H s1:=ph (vs:=[.ref a]) (us:=[.ref a]) S rfl ah af.symm (.cons rfl .nil) x;have ok:=U.ok;have I:L2.Inv (NG P w K mg base N qual (aW st) f cdv A outer s H a o) [] (start N [.ref a]) H s1:=by
  refine⟨⟨ok.mod,ok.kind,ok.glob,ok.blt,ok.above,ok.inj,ok.has,ok.cab,(λ z=>Bool.noConfusion z),Around.frames_deeper C.frames,ok.stk,ok.exf,ok.bs,ok.bsz,ok.noex,ok.exfs,ok.funs,ok.frf,ok.tb⟩,U.os,U.bare,U.base,U.loc,U.cell,U.free,U.freeC,λ p hp=>?_,U.hok,U.len⟩;have hp:p=(a,o):=by simpa[NG]using hp
  subst hp;refine⟨x.toInCall.keep _ _ ea,na,Nat.ne_of_lt (Heap.lt_size ea),nf,λ v q=>?_⟩;obtain⟨t,T,rfl⟩:=z;cases q
 refine wpAny_mono (ht [] s1 (start N [.ref a]) H _ I (hq Q hQ)) (λ fl s' hs=>?_) λ e s' hs=>False.elim hs;have fin: ∀{aa:L2.St}{H':Hp}{v:V}{u:Value},L2.Inv (NG P w K mg base N qual (aW st) f cdv A outer s H a o) [] aa H' s'->RelV v u->Q v H'->CE outer P w H s Q u s':=
  λ{aa H' v u} J rv q=>⟨v,H',J.os,J.bare,J.base,J.hok,rv,q⟩;cases fl with
 |ret u=>obtain⟨v,aa,H',J,rv,q⟩:=hs;exact fin J rv q
 |next=>obtain⟨aa,H',J,q⟩:=hs;exact fin (v:=V.non) (u:=Value.none) J rfl q
 |brk=>obtain⟨_,_,_,q⟩:=hs;simp_all
 |cont=>obtain⟨_,_,_,q⟩:=hs;exact False.elim q
end
noncomputable def Hi(i:Nat)(a:Addr)(res:V):TE:= λ σ H Q=>σ[i]?=some (some (.ref a))/\ ∀H',jO H H'->Q res H'
theorem C4{X:Cx}{i k:Nat}{f a D:Addr}{o:Obj}{fd:FuncData}{ps:List Str}{x y:Str}{res:V}{p p1 pos:Pos}(F:OB X.prog X.w X.K X.mg X.base k f fd ps D res)(hr:Rm k X.A)(hh:X.A.handled=some (.ref a))(hp:(a,o)∈X.pn)(z:D5 (.ref D) o)(hm:X.mg y=some (.ref f))(hk:PySem.W.keepIn X.K (.ref f)=true)(hb:Binds X.K fd ps [])(U:ps.length=1)
  (hN:X.N[i]?=some x:=by rfl)(hv:u5 X.env.scope x:=by first|exact Or.inl rfl|exact Or.inr (Or.inl rfl)|exact Or.inr (Or.inr rfl))(hg:Gl X y:=by rfl)(hd:(x==("__debug__":Str))=false:=by decide)(aa:(x==("__classdict__":Str))=false:=by decide)(hd2:(y==("__debug__":Str))=false:=by decide):
  PE X (.Call (.Name y p) [.Name x p1] [] pos) (Hi i a res):=by
 intro pins s σ H Q I h;refine wpAny_Call_Name_kw (jm I hg hm ?_ hd2);refine PySem.W.callWith_K (h₀:=X.base) I.ok.mod.kin hk (c_ ((bu (dP hN hv hd aa) da) pos pins s σ H (λ vs H1=>vs=[.ref a]/\H1=H) I ⟨_,h.1,rfl,rfl⟩) λ us s1 ⟨vs,H1,C,r,q1,q2⟩=>⟨C.kIn,?_⟩) rfl rfl;subst q1 q2;obtain⟨u,rfl,ru⟩:=r.one;cases ru;obtain⟨e1,n1,nl,nf,_⟩:=C.pin (a,o) (List.mem_append_left _ hp);have ns:a∉iR X.stack:= λ hm=>by
  rcases List.mem_cons.mp (C.stkSub a hm)with q|q
  .exact nl q
  simp_all
 refine wpAny_call (codeAny_mono (F.run X.A X.stack s1 H1 ⟨[.ref a],[]⟩ a o Q hr hh C.env0 (by simpa using hb s1 [.ref a] C.kIn (by simp[U])) z e1 n1 ns h.2) λ r s' J=>?_);cases r with
 |error e=>exact False.elim J
 |ok fl=>cases fl with
  |ret u=>exact C.after J
  |next=>exact False.elim J
  |brk=>exact False.elim J
  |cont=>exact False.elim J
end Jt
namespace Jt
open PySem L2
theorem Sl.unset(s:Sl c o S σ T H)(hu:o[i]?=some .un):Sl c o S (σ.set i none) T H:=by
 have ne: ∀(j:Nat) x,o[j]?=some x->x≠ .un->(σ.set i none)[j]?=σ[j]?:= λ j x h hx=>by grind
 have J: ∀a,vi o (σ.set i none) a->vi o σ a:= λ a ⟨j,b,xs,C,I⟩=>⟨j,b,xs,C,(ne j _ C (λ z=>nomatch z)).symm.trans I⟩;have m: ∀b u,gC c o σ H b=some u->gC c o (σ.set i none) H b=some u:=bP (λ a u e z=>z.elim .inl λ z=> .inr (J a z)) λ _ _ _ h=>h;refine⟨by simpa using s.len,λ j d h=>?_,λ j b xs h=>?_,λ j k b U xs ys a C I h3 h4=>?_,s.st.mono m,s.keep,s.bb,s.zk⟩;. obtain⟨v,e,r⟩:=s.pu j d h;exact⟨v,(ne j _ h (λ z=>nomatch z)).trans e,r.mono m⟩
 .obtain⟨a,vs,e,r1,r2,r3⟩:=s.ow j b xs h;exact⟨a,vs,(ne j _ h (λ z=>nomatch z)).trans e,r1,r2.mono m,r3⟩
 .exact s.ne j k b U xs ys a C I ((ne j _ C (λ z=>nomatch z)).symm.trans h3) ((ne k _ I (λ z=>nomatch z)).symm.trans h4)
noncomputable def BA(J I:Nat)(kinds:Addr->Option Str)(fx:M (Fl⊕Addr)):M Fl:= λ U=>match fx U with
 |some (.inl fl,o)=>some (fl,o)
 |some (.inr C,o)=>match kinds C,o[J]? with
  |some w,some .un=>if I<o.length/\J≠I then some (.nx,o.set I (.pu (.str w)))else none
  |_,_=>none
 |none=>none
structure P6 (P:Program) (w:World) (K:PySem.W.Frag) (mg:Str->Option Value) (base:Heap) (k:Nat) (f C0:Addr) (fd:FuncData) (ps:List Str) (kinds:Addr->Option Str):Prop where
 fn:∀ C x,kinds C=some x->OB P w K mg base k f fd ps C (.str x)
 ex:∀ C x,kinds C=some x->PySem.W.exmOne K (.ref C) (.ref C0)=some true
section
variable {X:Cx} {body:List Stmt} {x n y g:Str} {C0 f:Addr} {ie iy k:Nat} {fd:FuncData} {ps:List Str} {kinds:Addr->Option Str} {fx:M (Fl ⊕ Addr)} {p hpos pos py pg pn pc pa:Pos}
noncomputable def Qt(kinds:Addr->Option Str)(ie:Nat)(t:TE->TS)(a:Addr):Value->TS
 | .ref C=>match kinds C with
  |some w=>t (Hi ie a (.str w))
  |none=> λ _ _ _=>False
 |_=> λ _ _ _=>False
theorem Hv(ie iy:Nat)(W:P6 X.prog X.w X.K X.mg X.base k f C0 fd ps kinds)(hN:X.N.Nodup)(af:X.stack=X.env::X.outer)(hf:X.env.frame=some X.env.locals)(hb:rX X false body fx)(hr:cX k X.A)(hm:X.mg x=some (.ref C0))(ag:X.mg g=some (.ref f))(hk:PySem.W.keepIn X.K (.ref f)=true)(ah:Binds X.K fd ps [])(ai:ps.length=1:=by rfl)
  (hi:X.N[ie]?=some n:=by rfl)(hl:X.env.kindOf n=some .local:=by rfl)(aj:X.N[iy]?=some y:=by rfl)(U:X.env.kindOf y=some .local:=by rfl)(hg:Gl X x:=by rfl)(ak:Gl X g:=by rfl)(ao:(x==("__debug__":Str))=false:=by decide)(hd:(n==("__debug__":Str))=false:=by decide)(aq:(n==("__classdict__":Str))=false:=by decide)(hd2:(g==("__debug__":Str))=false:=by decide)
  (ar:swapsWith (.Call (.Name g pg) [.Name n pn] [] pc) (some (.Name y py)) pa.line X.env=pure false:=by rfl):
  qe X (.Try body [.ExceptHandler (some (.Name x p)) (some n) [.Assign [.Name y py] (.Call (.Name g pg) [.Name n pn] [] pc) pa] hpos] [] [] pos) (BA ie iy kinds fx):=by
 refine jW (KS (Adm:= λ cls=> ∃C w,cls= .ref C/\kinds C=some w) (th:=Qt kinds ie λ te=>lH te (ik iy)) hN af hf hb hg hm hi hl (λ cls ⟨C,w,e,hw⟩=>e▸W.ex C w hw) (λ a o cls z ⟨C,w,e,hw⟩=>?_) ao) λ E σ H ⟨c,δ,S,T,fl,av,s,e,q⟩=>?_;. subst e;show oI (hx X a o) _ (match kinds C with|some w=>lH (Hi ie a (.str w)) (ik iy)|none=> λ _ _ _=>False);rw[hw];exact l3 (jC (X:=hx X a o) hN aj (.inl U) (C4 (X:=hx X a o) (W.fn C w hw) ((L8 hr).mark _) rfl List.mem_cons_self z ag hk ah ai hi (.inl hl) ak hd aq hd2) ar (.inr U))
 .unfold BA at e;split at e;. rename_i aw aa J;cases e;exact⟨c,δ,S,T,.inl _,_,s,J,q⟩
  .rename_i C aa J;split at e
   .rename_i w hw ab;split at e
    .rename_i ae;cases e;refine⟨c,δ,S,T,.inr C,aa,s,J,λ I H' s'=>⟨⟨⟨C,w,rfl,hw⟩,λ a na=>?_⟩,λ z=>nomatch z⟩⟩;show(match kinds C with|some w=>lH (Hi ie a (.str w)) (ik iy)|none=> λ _ _ _=>False) _ _ _;rw[hw];have au:ie<I.length:=by rw[<- s'.len];exact(List.getElem?_eq_some_iff.mp ab).1
     refine⟨List.getElem?_set_self au,λ H2 sm=>?_⟩;show E.nx (((I.set ie (some (.ref a))).set iy (some (.str w))).set ie none) H2;have s2:=(s'.grow sm).unset ab;have s3:=(s2.stk (S':= .str w::S) (T':= .str w::T) (.cons .mkS s2.st)).setPu ae.1;have:((I.set ie (some (.ref a))).set iy (some (.str w))).set ie none=(I.set ie none).set iy (some (.str w)):=by rw[List.set_comm _ _ ae.2.symm,List.set_set]
     rw[this];exact q _ _ s3
    .cases e
   grind
  grind
end
end Jt
namespace L2
open PySem PySem.Spec PyProof.Rows
noncomputable abbrev tests(ifs:List Expr)(env:Env):Sem Bool:=forIn ifs true λ c r=>if r=true then do let ok<- isTrue c env (eval c env);pure (ForInStep.yield ok)else pure (ForInStep.yield r)
section
variable {elt t1 i1 t2 i2:Expr} {ifs1 ifs2:List Expr} {scope:Scope} {pos:Pos}
noncomputable abbrev two(elt t1 i1:Expr)(ifs1:List Expr)(t2 i2:Expr)(ifs2:List Expr)(scope:Scope)(pos:Pos):Expr:= .ListComp elt [⟨t1,i1,ifs1,0⟩,⟨t2,i2,ifs2,0⟩] scope pos
end
end L2
namespace Jt
open PySem L2
noncomputable def kO:List Int->Int
 |[]=>0
 |[a]=>a
 |a::b::r=>if a<=kO (b::r)then a else kO (b::r)
theorem sY: ∀{ns:List Int},ns≠[]->kO ns∈ns
 |[],h=>absurd rfl h
 |[a],_=>List.mem_singleton.mpr rfl
 |a::b::r,_=>by have:=sY (ns:=b::r) (by simp);unfold kO;grind
theorem xW: ∀{ns:List Int}{x:Int},x∈ns->kO ns<=x
 |[a],x,h=>by rw[List.mem_singleton.mp h];exact Int.le_refl _
 |a::b::r,x,h=>by have C:= λ y (o:y∈b::r)=>xW o;unfold kO;grind
theorem Fb(h:m∈ns)(o: ∀a∈ns,m<=a):m=kO ns:=by have C:=xW h;have I:=o _ (sY (List.ne_nil_of_mem h));omega
section
variable {X:Cx} {a:Expr} {fs:M (List D)} {p pos:Pos}
theorem yR(hc:X.calm=true):du X (.builtin "min") (λ xs H Q=> ∃(p:Addr) (ns:List Int),xs=[.ref p]/\gm X.K H p (ns.map V.int)/\0<ns.length/\Q (.int (kO ns)) H):=by
 intro pins s σ H xs us Q I r h
 obtain⟨p,ns,rfl,hq,aa,q⟩:=h;obtain⟨u,rfl,rx⟩:=r.one;cases rx;obtain⟨its,rv,pl,hz⟩:=I.tuple hq;have hl:=rv.length;rw[List.length_map]at hl;have C:s.heap.IsTuple p its.toArray:=pl;have J:p<s.heap.objs.size:=by obtain⟨_,e,_⟩:=C;exact Heap.lt_size e
 have val: ∀(i:Nat) v,its.toArray[i]?=some v-> ∃t,v= .int (ns.getD i 0) t:= λ i v hv=>by
  have U:its[i]?=some v:=by simpa using hv
  have hi:i<ns.length:=by rw[hl];exact(List.getElem?_eq_some_iff.mp U).1
  obtain⟨u,hu,ru⟩:=rv.get (i:=i) (x:= .int (ns.getD i 0)) (by simp[hi]);rw[U]at hu;cases hu;exact ru
 refine call_min_walk (wpAny_pyIter_tuple C ?_)
 refine⟨s.heap.objs.size,[s.heap.objs.size,p],[s.heap.objs.size],its.toArray.size,_,_,_,rfl,Walks.tuple (A:=X.A.in1) (I.ok.hd hc) _ p (Nat.ne_of_lt J) its.toArray,
  ⟨⟨_,Heap.get?_push_size _ rfl,rfl,rfl⟩,C.push _⟩,λ b hb=>?_,by rw[List.size_toArray];omega,CmpOf.ints_lt (λ i=>ns.getD i 0) val,λ v h' tk hP hk=>?_⟩
 .rw[Heap.size_push]
  rcases List.mem_cons.mp hb with rfl|hb
  .exact Nat.lt_succ_self _
  .rw[List.mem_singleton.mp hb];exact Nat.lt_succ_of_lt J
 .obtain⟨t,rfl⟩:=val _ _ hP
  obtain⟨h1,h2⟩:=argBest_lt (λ i=>ns.getD i 0) (its.toArray.size-1)
  rw[List.size_toArray,<- hl]at h1 h2
  have e:ns.getD (argBest (λ i j=>decide (ns.getD i 0<ns.getD j 0)) (its.toArray.size-1)) 0=kO ns:=by
   rw[List.size_toArray,<- hl]
   refine Fb ?_ λ x hx=>?_
   .grind
   .obtain⟨j,hj,rfl⟩:=List.getElem_of_mem hx
    have:=h2 j (by omega)
    simpa[hj]using this
  exact⟨.int (kO ns),H,I.kept λ b o eb=>hk b o (λ hm=>absurd (Heap.lt_size eb) (by rw[List.mem_singleton.mp hm];exact Nat.lt_irrefl _)) (Heap.get?_push_of_some _ eb),⟨t,by rw[e]⟩,q⟩
noncomputable def pj:List D->Option D
 |[.tup xs]=>match dN xs with
  |some (i::r)=>some (.int (kO (i::r)))
  |_=>none
 |_=>none
theorem Ei:ig (λ xs H Q=> ∃(p:Addr) (ns:List Int),xs=[.ref p]/\gm K H p (ns.map V.int)/\0<ns.length/\Q (.int (kO ns)) H) pj:= λ c U S σ T H ds vs d Q l s e k=>by
 unfold pj at e;split at e
 .split at e
  .rename_i i r o;cases e;obtain⟨v,rfl,C⟩:=tK (s.st.left l);obtain⟨p,ws,rfl,I,J⟩:=C.tup;have:=gj J o;subst this;exact⟨p,i::r,rfl,.of (bK _ _ I),by simp,k _ _ (s.stk (.cons .mkI (s.st.right l)))⟩
  grind
 grind
theorem Hc(hm:X.mg "min"=none)(o:DA X [a] fs)(C:Gl X "min":=by rfl)(I:X.calm=true:=by rfl)(he:starEach [a] X.env=[(false,eval a X.env)]:=by rfl):DE X (.Call (.Name "min" p) [a] [] pos) (mC pj fs):=
 fv (yR I) Ei C hm (by decide+kernel) o (by decide) (by decide) he rfl
end
mutual
noncomputable def py:D->PyData
 | .non=>.none
 | .bl b=>.bool b
 | .int i=>.int i
 | .str x=>.str x
 | .tup xs=>.tuple (PK xs)
 | .lst xs=>.list (PK xs)
 | .dct=>.dict []
 | .dic _=>.dict []
 | .dip _=>.dict []
noncomputable def PK:List D->List PyData
 | []=>[]
 | d :: r=>py d :: PK r
end
section
variable {δ:DS} {α β:Type}
theorem oV {m:M α} {Q:α->DS->Prop} (h:m δ=some (a,δ')) (q:Q a δ'):Ok m δ Q:=⟨a,δ',h,q⟩
theorem oBind {m:M α} {f:α->M β} {Q:β->DS->Prop} (h:Ok m δ fun a o=>Ok (f a) o Q):Ok (m >>= f) δ Q:=bL.mpr h
theorem oPure {a:α} {Q:α->DS->Prop} (q:Q a δ):Ok (pure a) δ Q:=⟨a,δ,rfl,q⟩
theorem oGet {Q:D->DS->Prop} (h:δ[i]? = some (.pu d)) (q:Q d δ):Ok (aV i) δ Q:=hU.mpr ⟨d,h,q⟩
theorem oPeek {Q:List D->DS->Prop} (h:δ[i]? = some (.ow b xs)) (q:Q xs δ):Ok (bO i) δ Q:=iP.mpr ⟨b,xs,h,q⟩
theorem oTake {Q:List D->DS->Prop} (h:δ[i]? = some (.ow false xs)) (q:Q xs (δ.set i .un)):Ok (kX i) δ Q:=AW.mpr ⟨xs,h,q⟩
theorem oLen {Q:D->DS->Prop} (h:δ[i]? = some (.ow b xs)) (q:Q (.int xs.length) δ):Ok (jx i) δ Q:=Dy.mpr ⟨b,xs,h,q⟩
theorem oLift {o:Option α} {Q:α->DS->Prop} (h:o=some a) (q:Q a δ):Ok (lift o) δ Q:=jY h q
theorem oCall {Q:D->DS->Prop} {f:List D->Option D} (hn:ds.length=n) (h:f ds=some d) (q:Q d δ):Ok (lift (bh n f ds)) δ Q:=jY (by unfold bh;rw [if_pos hn,h]) q
theorem oCallF {Q:List D->DS->Prop} {f:List D->Option (List D)} (hn:ds.length=n) (h:f ds=some d) (q:Q d δ):Ok (lift (bh n f ds)) δ Q:=jY (by unfold bh;rw [if_pos hn,h]) q
theorem oSet {Q:Unit->DS->Prop} (h:Nat.blt i δ.length=true) (q:Q () (δ.set i (.pu d))):Ok (bT i d) δ Q:=jX.mpr ⟨Nat.le_of_ble_eq_true h,q⟩
theorem oM1 {Q:D->DS->Prop} (h:Ok C δ fun x o=>Ok (lift (f x)) o Q):Ok (m1 f C) δ Q:=My.mpr h
theorem oM2 {Q:D->DS->Prop} (h:Ok I δ fun x o=>Ok J o fun y C=>Ok (lift (f x y)) C Q):Ok (m2 f I J) δ Q:=yn.mpr h
theorem oMC {f:List D->Option α} {Q:α->DS->Prop} (h:Ok fs δ fun ds o=>Ok (lift (f ds)) o Q):Ok (mC f fs) δ Q:=jv.mpr h
theorem oMQ {f:List D->Option (List D)} {Q:List D->DS->Prop} (h:Ok fs δ fun ds o=>Ok (lift (f ds)) o Q):Ok (mQ f fs) δ Q:=HS.mpr h
theorem oCons {Q:List D->DS->Prop} (h:Ok I δ fun x o=>Ok fs o fun xs C=>Q (x :: xs) C):Ok (aR I fs) δ Q:=d3.mpr h
theorem oTup {Q:D->DS->Prop} (h:Ok fs δ fun xs o=>xs.length ≤ 100000∧Q (.tup xs) o):Ok (dm fs) δ Q:=E7.mpr (h.mono fun _ _ q=>iU.mpr q)
theorem oLst {Q:List D->DS->Prop} (h:Ok fs δ fun xs o=>xs.length ≤ 100000∧Q xs o):Ok (dW fs) δ Q:=xH.mpr (h.mono fun _ _ q=>iU.mpr q)
theorem oIf {Q:α->DS->Prop} (h:Ok t δ fun b o=>if b=true then Ok C o Q else Ok I o Q):Ok (eY t C I) δ Q:=vN.mpr h
theorem oAnd {Q:Bool->DS->Prop} (h:Ok t δ fun b o=>if b=true then Ok u o Q else Q false o):Ok (qL t u) δ Q:=FJ.mpr h
theorem oOr {Q:Bool->DS->Prop} (h:Ok t δ fun b o=>if b=true then Q true o else Ok u o Q):Ok (vj t u) δ Q:=Jn.mpr h
theorem oNot {Q:Bool->DS->Prop} (h:Ok t δ fun b o=>Q (!b) o):Ok (fC t) δ Q:=EK.mpr h
theorem oAsB {b:Bool} {Q:Bool->DS->Prop} (q:Q b δ):Ok (dD (.bl b)) δ Q:=DD.mpr ⟨b,rfl,q⟩
theorem oAsI {i:Int} {Q:Option Int->DS->Prop} (q:Q (some i) δ):Ok (Ju (.int i)) δ Q:=Jm.mpr ⟨i,rfl,q⟩
inductive IxE (i:Nat) (Q:D->DS->Prop) (y:D) (o:DS):Prop
 | mk (h1:o[i]? = some (.ow b xs)) (h2:dq (.lst xs) y=some d) (q:Q d o):IxE i Q y o
inductive BxE (i n:Nat) (mf:List D->List D->Option (D × List D)) (Q:D->DS->Prop) (ds:List D) (o:DS):Prop
 | mk (h1:o[i]? = some (.ow b xs)) (h2:ds.length + 1=n) (h3:mf xs ds=some (d,C)) (q:Q d (o.set i (.ow b C))):BxE i n mf Q ds o
theorem oIxO {Q:D->DS->Prop} (h0:δ[i]? = some (.ow b xs)) (h:Ok C δ (IxE i Q)):Ok (yL i C) δ Q :=
 Hq.mpr ⟨⟨b,xs,h0⟩,h.mono fun _ _ ⟨e,h,q⟩=>⟨_,_,e,jY h q⟩⟩
theorem oBox {Q:D->DS->Prop} (h:Ok fs δ (BxE i n mf Q)):Ok (dg i n mf fs) δ Q :=
 EJ.mpr (h.mono fun _ _ ⟨h1,h2,h3,q⟩=>⟨_,_,h1,h2,(_,_),h3,q⟩)
theorem oTurn {Q:Option D->DS->Prop} (h:Ok (gt d) δ fun _ C=>Ok tt C fun b o=>if b=true then Ok te o fun x I=>Q (some x) I else Q none o):Ok (bF gt tt te d) δ Q:=uc.mpr h
theorem oTg {ds:List D} {Q:Unit->DS->Prop} (hn:ds.length=n) (h:Ok (g ds) δ Q):Ok (fQ n g (.tup ds)) δ Q:=yu.mpr ((if_pos hn).mpr h)
theorem oTc {Q:Unit->DS->Prop} (h:Ok (f d) δ fun _ o=>Ok (g ds) o Q):Ok (cN f g (d :: ds)) δ Q:=qE.mpr h
theorem oTn {Q:Unit->DS->Prop} (q:Q () δ):Ok (gQ []) δ Q:=uQ.mpr q
theorem oIsi {Q:D->DS->Prop} (h:Ok C δ fun d o=>Q (.bl (cx T d)) o):Ok (kj T C) δ Q:=GN.mpr h
theorem oH2 {g:D->D->Option α} {Q:α->DS->Prop} (h:Ok U δ fun h1 o=>Ok fb o fun h2 C=>Ok (rdH h1) C fun x I=>Ok (rdH h2) I fun y J=>Ok (lift (g x y)) J Q):Ok (y3 g U fb) δ Q:=IX.mpr h
theorem oRd {Q:D->DS->Prop} (q:Q x δ):Ok (rdH (.th x)) δ Q:=Kq.mpr q
theorem oRdL {Q:D->DS->Prop} (h:δ[i]? = some (.ow b xs)) (q:Q (.lst xs) δ):Ok (rdH (.ls i)) δ Q:=K1.mpr ⟨b,xs,h,q⟩
theorem oOwn {Q:Hn->DS->Prop} (h:δ[i]? = some (.ow b xs)) (q:Q (.ls i) δ):Ok (CP i) δ Q:=GI.mpr ⟨b,xs,h,q⟩
theorem oConH {Q:List D->DS->Prop} (h:Ok J δ fun h o=>Ok fs o fun xs C=>Ok (rdH h) C fun x I=>Q (x :: xs) I):Ok (vK J fs) δ Q:=zG.mpr h
theorem oSl {Q:D->DS->Prop} (h:Ok J δ fun x o=>Ok U o fun l C=>Ok fh C fun h I=>Ok (lift (L0 x l h)) I Q):Ok (Jo J U fh) δ Q:=LL.mpr h
theorem oStP {Q:Fl->DS->Prop} (h:Ok C δ fun d o=>Nat.blt i o.length=true∧Q .nx (o.set i (.pu d))):Ok (eB i C) δ Q:=mG.mpr (h.mono fun _ _ q=>⟨Nat.le_of_ble_eq_true q.1,q.2⟩)
theorem oStO {Q:Fl->DS->Prop} (h:Ok C δ fun d o=>Nat.blt i o.length=true∧Q .nx (o.set i (.ow false d))):Ok (wx i C) δ Q:=KJ.mpr (h.mono fun _ _ q=>⟨Nat.le_of_ble_eq_true q.1,q.2⟩)
theorem oSq {Q:Fl->DS->Prop} (h:Ok C δ fun d o=>Nat.blt i o.length=true∧Ok g (o.set i (.pu d)) Q):Ok (br (eB i C) g) δ Q:=cn.mpr (oStP h)
theorem oSqO {Q:Fl->DS->Prop} (h:Ok C δ fun d o=>Nat.blt i o.length=true∧Ok g (o.set i (.ow false d)) Q):Ok (br (wx i C) g) δ Q:=cn.mpr (oStO h)
theorem eP {Q:Fl->DS->Prop} (h:Ok t δ fun b o=>if b=true then Ok (br C g) o Q else Ok (br I g) o Q):Ok (br (eY t C I) g) δ Q :=
 cn.mpr (vN.mpr (h.mono fun b o q=>by cases b <;> exact cn.mp q))
theorem oSqN {Q:Fl->DS->Prop} (h:Ok g δ Q):Ok (br (pure .nx) g) δ Q:=cn.mpr (bU.mpr h)
theorem O7 {Q:Fl->DS->Prop} (h:Ok f δ fun C o=>match C with | .nx=>Ok (br g k) o Q | C=>Q C o):Ok (br (br f g) k) δ Q:= by
 refine cn.mpr (cn.mpr (h.mono fun C o q=>?_));cases C <;> first | exact cn.mp q | exact q
theorem oSqR {Q:Fl->DS->Prop} {m:M D} (h:Ok m δ fun d o=>Q (.rt d) o):Ok (br (do let d <- m;pure (Fl.rt d)) g) δ Q:=cn.mpr (bL.mpr (h.mono fun _ _ q=>bU.mpr q))
theorem PQ {fi:M md} {gt:D->M Unit} {body g:M Fl} {Q:Fl->DS->Prop} (ds:List D) (I:Nat->DS->Prop) (U:Ok fi δ fun it C=>it=bC ds∧C=δ) (h0:I 0 δ)
  (ht:∀ k (hk:k < ds.length) δ,I k δ->Ok (gt ds[k]) δ fun _ J=>Ok body J fun fl o=>match fl with
   | .nx=>I (k + 1) o
   | .ct=>I (k + 1) o
   | .bk=>Ok g o Q
   | .rt d=>Q (.rt d) o
   | .rf d=>Q (.rf d) o) (hQ:∀ δ,I ds.length δ->Ok g δ Q):Ok (br (do let it <- fi;Jt.forM gt body it.2 it.1) g) δ Q:=cn.mpr (gg ds I U h0 (fun k hk δ h=>(ht k hk δ h).mono fun _ _ h=>h.mono fun fl _ h=>by cases fl <;> exact h) hQ)
theorem oSqSP {Q:Fl->DS->Prop} (h:Ok C δ fun d o=>Nat.blt i o.length=true∧Ok (br g k) (o.set i (.pu d)) Q):Ok (br (br (eB i C) g) k) δ Q:=O7 (oStP h)
inductive PpE (i:Nat) (Q:D->DS->Prop):List D->DS->Prop
 | mk (j:Nat) (h1:o[i]? = some (.ow b xs)) (h2:j < 100000) (h3:xs[j]? = some d) (q:Q d (o.set i (.ow b (xs.eraseIdx j)))):PpE i Q [.int j] o
theorem oPop {Q:D->DS->Prop} (h0:δ[i]? = some (.ow b xs)) (h:Ok fs δ (PpE i Q)):Ok (uY i fs) δ Q:=E8 ⟨b,xs,h0⟩ (h.mono fun _ _ ⟨j,h1,h2,h3,q⟩=>⟨j,_,_,_,rfl,h1,h2,h3,q⟩)
inductive ApE (i:Nat) (Q:Fl->DS->Prop):List D->DS->Prop
 | mk (h1:o[i]? = some (.ow b xs)) (h2:xs.length ≤ 100000) (q:Q .nx (o.set i (.ow b (xs ++ [d])))):ApE i Q [d] o
theorem oApp {Q:Fl->DS->Prop} (h0:δ[i]? = some (.ow b xs)) (h:Ok fs δ (ApE i Q)):Ok (gi i fs) δ Q:=vS ⟨b,xs,h0⟩ (h.mono fun _ _ ⟨h1,h2,q⟩=>⟨_,_,_,rfl,h1,h2,q⟩)
theorem oSqA {Q:Fl->DS->Prop} (h0:δ[i]? = some (.ow b xs)) (h:Ok fs δ (ApE i fun _ o=>Ok g o Q)):Ok (br (gi i fs) g) δ Q:=cn.mpr (oApp h0 (h.mono fun _ _ ⟨h1,h2,q⟩=>⟨h1,h2,q⟩))
inductive ChE (fc:M D) (r:D->D->Option D) (y:D) (Q:D->DS->Prop):D->DS->Prop
 | t (h:Ok fc o fun w J=>Ok (lift (r y w)) J Q):ChE fc r y Q (.bl true) o
 | f (q:Q (.bl false) o):ChE fc r y Q (.bl false) o
theorem oChn {Q:D->DS->Prop} (h:Ok fa δ fun x C=>Ok fb C fun y I=>Ok (lift (U x y)) I (ChE fc r y Q)):Ok (BB U r fa fb fc) δ Q :=
 IU.mpr (h.mono fun _ _ h=>h.mono fun _ _ h=>h.mono fun _ _ h=>by cases h <;> assumption)
theorem oT {A B:Prop} {b:Bool} (h:b=true) (q:A):if b=true then A else B:=(if_pos h).mpr q
theorem oF {A B:Prop} {b:Bool} (h:b=false) (q:B):if b=true then A else B:=(if_neg (Bool.not_eq_true _ ▸ h)).mpr q
theorem oL {A:Prop} (h:Nat.ble n 100000=true) (q:A):n ≤ 100000∧A:=⟨Nat.le_of_ble_eq_true h,q⟩
end
end Jt
namespace Jt
open PySem L2 PySem.Spec PyProof.Rows
noncomputable def ku:List Int->Int
 |[]=>0
 |[a]=>a
 |a::b::r=>if ku (b::r)<=a then a else ku (b::r)
theorem tQ: ∀{ns:List Int},ns≠[]->ku ns∈ns
 |[],h=>absurd rfl h
 |[a],_=>List.mem_singleton.mpr rfl
 |a::b::r,_=>by have:=tQ (ns:=b::r) (by simp);unfold ku;grind
theorem yk: ∀{ns:List Int}{x:Int},x∈ns->x<=ku ns
 |[a],x,h=>by rw[List.mem_singleton.mp h];exact Int.le_refl _
 |a::b::r,x,h=>by have C:= λ y (o:y∈b::r)=>yk o;unfold ku;grind
theorem E4(h:m∈ns)(o: ∀a∈ns,a<=m):m=ku ns:=by have C:=yk h;have I:=o _ (tQ (List.ne_nil_of_mem h));omega
section
variable {X:Cx} {a:Expr} {fs:M (List D)} {p pos:Pos}
theorem yS(hc:X.calm=true):du X (.builtin "max") (λ xs H Q=> ∃(p:Addr) (ns:List Int),xs=[.ref p]/\gm X.K H p (ns.map V.int)/\0<ns.length/\Q (.int (ku ns)) H):=by
 intro pins s σ H xs us Q I r h;obtain⟨p,ns,rfl,hq,aa,q⟩:=h;obtain⟨u,rfl,rx⟩:=r.one;cases rx;obtain⟨its,rv,pl,hz⟩:=I.tuple hq;have hl:=rv.length;rw[List.length_map]at hl;have C:s.heap.IsTuple p its.toArray:=pl;have J:p<s.heap.objs.size:=by obtain⟨_,e,_⟩:=C;exact Heap.lt_size e
 have val: ∀(i:Nat) v,its.toArray[i]?=some v-> ∃t,v= .int (ns.getD i 0) t:= λ i v hv=>by
  have U:its[i]?=some v:=by simpa using hv
  have hi:i<ns.length:=by rw[hl];exact(List.getElem?_eq_some_iff.mp U).1
  obtain⟨u,hu,ru⟩:=rv.get (i:=i) (x:= .int (ns.getD i 0)) (by simp[hi]);rw[U]at hu;cases hu;exact ru
 refine call_max_walk (wpAny_pyIter_tuple C ?_);refine⟨s.heap.objs.size,[s.heap.objs.size,p],[s.heap.objs.size],its.toArray.size,_,_,_,rfl,Walks.tuple (A:=X.A.in1) (I.ok.hd hc) _ p (Nat.ne_of_lt J) its.toArray,
  ⟨⟨_,Heap.get?_push_size _ rfl,rfl,rfl⟩,C.push _⟩,λ b hb=>?_,by rw[List.size_toArray];omega,CmpOf.ints_gt (λ i=>ns.getD i 0) val,λ v h' tk hP hk=>?_⟩
 .rw[Heap.size_push];rcases List.mem_cons.mp hb with rfl|hb
  .exact Nat.lt_succ_self _
  .rw[List.mem_singleton.mp hb];exact Nat.lt_succ_of_lt J
 .obtain⟨t,rfl⟩:=val _ _ hP;obtain⟨h1,h2⟩:=argBest_gt (λ i=>ns.getD i 0) (its.toArray.size-1);rw[List.size_toArray,<- hl]at h1 h2;have e:ns.getD (argBest (λ i j=>decide (ns.getD i 0>ns.getD j 0)) (its.toArray.size-1)) 0=ku ns:=by
   rw[List.size_toArray,<- hl];refine E4 ?_ λ x hx=>?_;. grind
   .obtain⟨j,hj,rfl⟩:=List.getElem_of_mem hx;have:=h2 j (by omega);simpa[hj]using this
  exact⟨.int (ku ns),H,I.kept λ b o eb=>hk b o (λ hm=>absurd (Heap.lt_size eb) (by rw[List.mem_singleton.mp hm];exact Nat.lt_irrefl _)) (Heap.get?_push_of_some _ eb),⟨t,by rw[e]⟩,q⟩
noncomputable def qd:List D->Option D
 |[.tup xs]=>match dN xs with
  |some (i::r)=>some (.int (ku (i::r)))
  |_=>none
 |_=>none
theorem EY{K:PySem.W.Frag}:ig (λ xs H Q=> ∃(p:Addr) (ns:List Int),xs=[.ref p]/\gm K H p (ns.map V.int)/\0<ns.length/\Q (.int (ku ns)) H) qd:= λ c U S σ T H ds vs d Q l s e k=>by
 unfold qd at e;split at e
 .split at e
  .rename_i i r o;cases e;obtain⟨v,rfl,C⟩:=tK (s.st.left l);obtain⟨p,ws,rfl,I,J⟩:=C.tup;have:=gj J o;subst this;exact⟨p,i::r,rfl,.of (bK _ _ I),by simp,k _ _ (s.stk (.cons .mkI (s.st.right l)))⟩
  grind
 grind
theorem ED(hm:X.mg "max"=none)(o:DA X [a] fs)(C:Gl X "max":=by rfl)(I:X.calm=true:=by rfl)(he:starEach [a] X.env=[(false,eval a X.env)]:=by rfl):DE X (.Call (.Name "max" p) [a] [] pos) (mC qd fs):=
 fv (yS I) EY C hm (by rfl) o (by decide) (by rfl) he rfl
end
section
variable {X:Cx} {a b c0:Expr} {fa fb fc:M D} {pos:Pos}
theorem MV{h h':Int->Int->D}(hg: ∀H i j,R H (h i j) (g i j))(I: ∀H i j,R H (h' i j) (g' i j))(σ:L2.St)(H:Hp)(Q:V->Hp->Prop)
  (hq:tM (BB (df (λ _ _=>true) h) (df (λ _ _=>true) h') fa fb fc) σ H Q):wQ (vE g) (vE g') (tM fa) (tM fb) (tM fc) σ H Q:=by obtain⟨c,δ,S,T,d,aa,s,e,k⟩:=hq;obtain⟨x,C,e1,e⟩:=bind_some e;obtain⟨y,o,e2,e⟩:=bind_some e;obtain⟨z,ab,e3,e⟩:=bind_some e;obtain⟨e4,rfl⟩:=bc e3;obtain⟨i,j,rfl,rfl,_,rfl⟩:=dG e4;refine⟨c,δ,S,T,.int i,C,s,e1,λ v H1 s1=>⟨c,C,.int i::S,v::T,.int j,o,s1,e2,λ u H2 s2=>?_⟩⟩;refine⟨i,j,s2.st.tail.head.int,s2.st.head.int,?_⟩;have rg:=hg (gC c o σ H2) i j;cases hz:h i j with
 |bl q=>rw[hz]at e rg;refine⟨q,rg.bl,?_⟩;cases q with
  |true=>obtain⟨w,J,e5,e⟩:=bind_some e;obtain⟨e6,rfl⟩:=bc e;obtain⟨i',U,ei,rfl,_,rfl⟩:=dG e6;cases ei;exact⟨c,o,.int j:: .int i::S,u::v::T,.int U,J,s2,e5,λ w' H4 s4=>⟨j,U,s4.st.tail.head.int,s4.st.head.int,k _ _ (s4.stk (.cons (I _ _ _) s4.st.tail.tail.tail))⟩⟩
  |false=>obtain⟨rfl,rfl⟩:=aZ e;exact k _ _ (s2.stk (.cons .mkB s2.st.tail.tail))
 |_=>rw[hz]at e;cases e
theorem B7{g g':Int->Int->V}{h h':Int->Int->D}(U:gD X (compareOp op) (vE g))(C:gD X (compareOp o) (vE g'))(hg: ∀H i j,R H (h i j) (g i j))(I: ∀H i j,R H (h' i j) (g' i j))(ha:DE X a fa)(hb:DE X b fb)(hc:DE X c0 fc)
  (hm:lastMarks [op,o] [b,c0]=false:=by with_unfolding_all rfl):DT X (.Compare a [op,o] [b,c0] pos) (BB (df (λ _ _=>true) h) (df (λ _ _=>true) h') fa fb fc >>= dD):=
 Az (BO U C ha hb hc hm) λ σ H Q ⟨c,δ,S,T,d,aa,s,e,k⟩=>by obtain⟨x,J,e1,e⟩:=bind_some e;obtain⟨rfl,rfl⟩:=jN e;exact MV hg I σ H _ ⟨c,δ,S,T,.bl d,J,s,e1,λ v H' s'=>⟨d,s'.st.head.bl,k _ s'.pop⟩⟩
theorem Gr(o:DE X a fa)(C:DE X b fb)(I:DE X c0 fc)(hm:lastMarks [.LtE,.Lt] [b,c0]=false:=by with_unfolding_all rfl):DT X (.Compare a [.LtE,.Lt] [b,c0] pos) (BB zT sv fa fb fc >>= dD):=B7 B5 nU (λ _ _ _=> .mkB) (λ _ _ _=> .mkB) o C I hm
end
section
variable {X:Cx} {a:Expr} {p pos:Pos} {fs:M (List D)}
theorem iQ(ns:List Int): ∀j,j<=ns.length->preSum (λ i=>ns.getD i 0) j=(ns.take j).sum
 |0,_=>rfl
 |j+1,h=>by show preSum _ j+_=_;rw[iQ ns j (by omega),List.take_succ_eq_append_getElem (by omega)];grind
noncomputable def HC(K:PySem.W.Frag):List V->Hp->VK->Prop:= λ xs H Q=> ∃(l:Addr) (ns:List Int),xs=[.ref l]/\jr K H l (ns.map V.int)/\(∀j,j<=ns.length->InLong ((ns.take j).sum))/\(∀i∈ns,InLong i)/\Q (.int ns.sum) H
theorem yY(hc:X.calm=true):du X (.builtin "sum") (HC X.K):=by
 intro pins s σ H xs us Q I r h;obtain⟨l,ns,rfl,hq,hn,hi,q⟩:=h;obtain⟨u,rfl,ru⟩:=r.one;cases ru;obtain⟨its,rv,pl,hz⟩:=I.list hq;have hlen:=rv.length;rw[List.length_map]at hlen;have J:l<s.heap.objs.size:=by obtain⟨o,e,_⟩:=pl.isList;exact Heap.lt_size e
 refine call_sum_walk (wpAny_pyIter_list pl.isList ?_);refine⟨s.heap.objs.size,[s.heap.objs.size,l],[s.heap.objs.size],its.toArray.size,_,_,λ i=>ns.getD i 0,rfl,Walks.list (A:=X.A.in1) (I.ok.hd hc) _ l (Nat.ne_of_lt J) its.toArray,
  ⟨⟨_,Heap.get?_push_size _ rfl,rfl,rfl⟩,pl.isList.push _⟩,λ b U=>?_,λ i v hv=>?_,λ j hj=>?_,λ h' tk t' kp=>?_⟩
 .rw[Heap.size_push];simp at U;rcases U with rfl|rfl
  .exact Nat.lt_succ_self _
  .exact Nat.lt_succ_of_lt J
 .have aa:its[i]?=some v:=by simpa using hv
  have ab:i<ns.length:=by rw[hlen];exact(List.getElem?_eq_some_iff.mp aa).1
  obtain⟨u,hu,ru⟩:=rv.get (i:=i) (x:=V.int ns[i]) (by simp);obtain⟨t,rfl⟩:=ru;grind
 .have C:j<ns.length:=by rw[hlen];simpa using hj
  refine⟨?_,?_⟩
  .show InLong (ns.getD j 0);have:ns.getD j 0=ns[j]:=by simp[C]
   rw[this];exact hi _ (List.getElem_mem C)
  .rw[iQ ns (j+1) C];exact hn _ C
 .have e:preSum (λ i=>ns.getD i 0) its.toArray.size=ns.sum:=by rw[show its.toArray.size=ns.length by simp[hlen],iQ ns _ (Nat.le_refl _),List.take_length]
  rw[e];exact⟨.int ns.sum,H,I.kept (t':=tk) λ b o eb=>kp b o (λ U=>absurd (Heap.lt_size eb) (by rw[List.mem_singleton.mp U];exact Nat.lt_irrefl _)) (Heap.get?_push_of_some _ eb),⟨t',rfl⟩,q⟩
noncomputable def lU(ns:List Int):Bool:=decide (ns.length<=1000)&&ns.all λ i=>decide (0<=i)&&decide (i<=1000000)
theorem qi: ∀{ns:List Int},(∀i∈ns,0<=i/\i<=1000000)->0<=ns.sum/\ns.sum<=1000000*ns.length
 |[],_=>by simp
 |i::r,h=>by have I:=h i List.mem_cons_self;have J:=qi (ns:=r) λ j C=>h j (List.mem_cons_of_mem _ C);grind
noncomputable def o_:List D->Option D
 |[.lst es]=>(dN es).bind λ ns=>if lU ns=true then some (.int ns.sum)else none
 |_=>none
theorem Jl{K:PySem.W.Frag}:ig (HC K) o_:= λ c U S σ T H ds vs d Q l s e k=>by
 unfold o_ at e;split at e;. rename_i es;cases q:dN es with
  |none=>rw[q]at e;cases e
  |some ns=>
   rw[q]at e;simp only[Option.bind_some]at e;split at e
   .rename_i hs;cases e;obtain⟨v,rfl,r⟩:=tK (s.st.left l);obtain⟨p,ws,rfl,I,J⟩:=r.lst;have:=gj J q;subst this;simp[lU]at hs;refine⟨p,ns,rfl,.inl (Rd.mono bK I),λ j hj=>?_,λ i C=>?_,k _ _ (s.stk (.cons .mkI (s.st.right l)))⟩;. have:=qi (ns:=ns.take j) λ i C=>hs.2 i (List.mem_of_mem_take C);have hl:(ns.take j).length<=1000:=Nat.le_trans (List.length_take_le ..) (by omega);exact⟨by omega,by omega⟩
    .have:=hs.2 i C;exact⟨by omega,by omega⟩
   grind
 grind
theorem sH(hm:X.mg "sum"=none)(C:DA X [a] fs)(I:Gl X "sum":=by rfl)(J:X.calm=true:=by rfl)(he:starEach [a] X.env=[(false,eval a X.env)]:=by rfl):DE X (.Call (.Name "sum" p) [a] [] pos) (mC o_ fs):=
 fv (yY J) Jl I hm PyProof.Rows.boot_sum C (by decide) (by rfl) he rfl
end
end Jt
namespace Jt
open PySem L2
structure Kn (P:Program) (w:World) (K:PySem.W.Frag) (mg:Str->Option Value) (base:Heap) (CX:zY) (k:Nat) (x:Str) (ps:List Str) (sp:Sp):Prop where
 ex:∃ f fd,eD P w K mg base CX k f fd ps sp∧mg x=some (.ref f)∧PySem.W.keepIn K (.ref f)=true∧Binds K fd ps []
structure Ent (K:PySem.W.Frag) (mg:Str->Option Value) (x:Str) (ps:List Str) (st:Stmt):Prop where
 ex:∃ f fd,zZ K x x st f fd∧mg x=some (.ref f)∧Binds K fd ps []
structure Fh (K:PySem.W.Frag) (x:Str) (st:Stmt):Prop where
 ex:∃ (f:Addr) (oc:Value) (od:Option Addr) (kV dc pm:Value) (an:Option Addr) (cd ct:Value) (sl:Array (Option Value)),PySem.W.nsIn K mainGlobals x=some (some (.ref f))∧K.lookup f=some ⟨oc,od,.func (PySem.W.fnOf x x (fH st) (cq st) (aW st) .none kV dc pm an cd ct),sl⟩∧PySem.W.codeIn K cd x=true∧PySem.W.keepIn K (.ref f)=true
theorem fh_mk {kV dc pm cd ct:Value} (a:PySem.W.nsIn K mainGlobals x=some (some (.ref f))) (l:K.lookup f=some ⟨oc,od,.func (PySem.W.fnOf x x (fH st) (cq st) (aW st) .none kV dc pm an cd ct),sl⟩) (c:PySem.W.codeIn K cd x=true) (k:PySem.W.keepIn K (.ref f)=true):Fh K x st:=⟨f,oc,od,kV,dc,pm,an,cd,ct,sl,a,l,c,k⟩
section
variable {P:Program} {w:World} {K:PySem.W.Frag} {mg:Str->Option Value} {base:Heap} {CX:zY} {j k:Nat} {x:Str} {ps N:List Str} {sp:Sp} {st:Stmt} {body:M Fl}
theorem Kn.up(G:Kn P w K mg base CX j x ps sp)(h:j<=k):Kn P w K mg base CX k x ps sp:=let⟨⟨f,fd,F,m⟩⟩:=G;⟨⟨f,fd,F.mono h,m⟩⟩
theorem ent(X:K.In h)(G:h.Ns mainGlobals mg)(e:Fh K x st)(C: ∀(kV doc pm:Value)(an:Option Addr)(cdv o:Value)(us:List Value),us.length=ps.length->bindArgs (PySem.W.fnOf x x (fH st) (cq st) (aW st) .none kV doc pm an cdv o) ⟨us,[]⟩=pure (ps.zip us)):Ent K mg x ps st:=by obtain⟨⟨f,I,od,kV,J,pm,an,cd,o,sl,a,l,c,k⟩⟩:=e;have F:=vF (st:=st) l c k;exact⟨⟨f,_,F,PySem.W.mg_of X G a,F.binds C⟩⟩
theorem lJ(E:Ent K mg x ps st)(S:bf N ps (aW st))(o: ∀(f:Addr)(cdv:Value)(A:Around)(outer:List Env)(s:Shared)(H:Hp)(E:XK),cX k (A.deeper (PyProof.Rows.envOfC x (aW st) s.heap.objs.size f cdv))->vf (ir dF P w K mg base N x (aW st) f cdv A outer s H E).nox (cq st) body):
  Kn P w K mg base dF (k+1) x ps (iW ps.length (bg N body)):=let⟨⟨f,fd,F,m,b⟩⟩:=E;⟨⟨f,fd,Qe F S (o f),m,F.kp,b⟩⟩
theorem Qf(E:Ent K mg x ps st)(S:bf N ps (aW st))(o: ∀(f:Addr)(cdv:Value)(A:Around)(outer:List Env)(s:Shared)(H:Hp)(E:XK),cX k (A.deeper (PyProof.Rows.envOfC x (aW st) s.heap.objs.size f cdv))->vf (ir dF P w K mg base N x (aW st) f cdv A outer s H E).nox (cq st) body):
  Kn P w K mg base dF (k+1) x ps (L7 ps.length (jU N body)):=let⟨⟨f,fd,F,m,b⟩⟩:=E;⟨⟨f,fd,Qz F S (o f),m,F.kp,b⟩⟩
theorem JR(E:Ent K mg x ps st)(S:bf N ps (aW st))(o: ∀(f:Addr)(cdv:Value)(A:Around)(outer:List Env)(s:Shared)(H:Hp)(E:XK),cX k (A.deeper (PyProof.Rows.envOfC x (aW st) s.heap.objs.size f cdv))->vf (ir dF P w K mg base N x (aW st) f cdv A outer s H E).nox (cq st) body):
  Kn P w K mg base dF (k+1) x ps (CY ps.length (cz N body)):=let⟨⟨f,fd,F,m,b⟩⟩:=E;⟨⟨f,fd,Qk F S (o f),m,F.kp,b⟩⟩
theorem EC(E:Ent K mg x ps st):Kn P w K mg base dF k x ps (iW n λ _=>none):=let⟨⟨f,fd,F,m,b⟩⟩:=E;⟨⟨f,fd,E1,m,F.kp,b⟩⟩
theorem O6{l:PySem.W.OpenLaw}{o:Addr}{st:Stmt}(X:K.In h)(G:h.Ns mainGlobals mg)(C:mg "law"=some (.ref o))(e:Fh K "law" st)(U: ∀(kV I pm:Value)(an:Option Addr)(cd J:Value)(s:Shared)(v:Value),BindsTo s (PySem.W.fnOf "law" "law" (fH st) (cq st) (aW st) .none kV I pm an cd J) ⟨[v],[]⟩ [("_law_script",v)])
  {N:List Str}{body:M Fl}(S:bf N ["_law_script"] (aW st))
  (hG: ∀(base:Heap)(f:Addr)(cdv:Value)(A:Around)(outer:List Env)(s:Shared)(H:Hp)(E:XK),cX k (A.deeper (PyProof.Rows.envOfC "law" (aW st) s.heap.objs.size f cdv))->vf (ir dF l.prog w K mg base N "law" (aW st) f cdv A outer s H E).nox (cq st) body)
  {Sq:Sp}(hS: ∀base f fd,eD l.prog w K mg base dF (k+1) f fd ["_law_script"] (iW 1 (bg N body))->eD l.prog w K mg base dF (k+1) f fd ["_law_script"] Sq):
  ∃fd:FuncData,(∀(s:Shared)(v:Value),BindsTo s fd ⟨[v],[]⟩ [("_law_script",v)])/\ ∀base:Heap,K.In base->base.Ns mainGlobals mg->eD l.prog w K mg base dF (k+1) o fd ["_law_script"] Sq:=by obtain⟨⟨f,oc,od,kV,I,pm,an,cd,J,sl,a,l,c,kp⟩⟩:=e;have e:=C.symm.trans (PySem.W.mg_of X G a);cases e;exact⟨_,U kV I pm an cd J,λ base _ _=>hS base _ _ (Qe (vF (st:=st) l c kp) S (hG base o))⟩
end
section
variable {X:Cx} {k:Nat} {x:Str} {ps:List Str} {a:Expr} {es:List Expr} {fs:M (List D)} {p pos:Pos}
theorem bo{n:Nat}(G:Kn X.prog X.w X.K X.mg X.base dF k x ps (iW n mf))(I:cX k X.A)(J:DA X (a::es) fs)
  (U:Gl X x:=by rfl)(o:(x==("__debug__":Str))=false:=by decide)(he:starEach (a::es) X.env=(false,eval a X.env)::starEach es X.env:=by rfl)(C:(backTo pos (starEach es X.env)).any (·.1)=false:=by rfl):
  DE X (.Call (.Name x p) (a::es) [] pos) (mC (λ ds=>if ds.length=n then mf ds else none) fs):=let⟨⟨_,_,F,m,c,b⟩⟩:=G;FP F I m c b J U o he C
theorem uA{n:Nat}(G:Kn X.prog X.w X.K X.mg X.base dF k x ps (L7 n mf))(I:cX k X.A)(J:DA X (a::es) fs)
  (U:Gl X x:=by rfl)(o:(x==("__debug__":Str))=false:=by decide)(he:starEach (a::es) X.env=(false,eval a X.env)::starEach es X.env:=by rfl)(C:(backTo pos (starEach es X.env)).any (·.1)=false:=by rfl):
  DF X (.Call (.Name x p) (a::es) [] pos) (mC (λ ds=>if ds.length=n then mf ds else none) fs):=let⟨⟨_,_,F,m,c,b⟩⟩:=G;GW F I m c b J U o he C
theorem bx(i:Nat){mf:List D->List D->Option (D×List D)}{n:Nat}{y:Str}{py:Pos}(G:Kn X.prog X.w X.K X.mg X.base dF k x ps (CY n mf))(J:cX k X.A)(U:DA X es fs)
  (hN:X.N[i]?=some y:=by rfl)(hv:u5 X.env.scope y:=by first | exact Or.inl rfl | exact Or.inr (Or.inl rfl) | exact Or.inr (Or.inr rfl))(hd:(y==("__debug__":Str))=false:=by decide)(o:(y==("__classdict__":Str))=false:=by decide)
  (hg:Gl X x:=by rfl)(C:(x==("__debug__":Str))=false:=by decide)(he:starEach (.Name y py::es) X.env=(false,eval (.Name y py) X.env)::starEach es X.env:=by rfl)(I:(backTo pos (starEach es X.env)).any (·.1)=false:=by rfl):
  DE X (.Call (.Name x p) (.Name y py::es) [] pos) (do let _<- bO i;dg i n mf fs):=let⟨⟨_,_,F,m,c,b⟩⟩:=G;yZ i F J m c b U hN hv hd o hg C he I
end
section
variable {P:Program} {w:World} {K:PySem.W.Frag} {mg:Str->Option Value} {base:Heap} {k:Nat} {x:Str} {ps N:List Str} {st:Stmt}
theorem Oo(E:Ent K mg x ps st)(S:bf N ps (aW st))(o: ∀(f:Addr)(cdv:Value)(A:Around)(outer:List Env)(s:Shared)(H:Hp)(E:XK),cX k (A.deeper (PyProof.Rows.envOfC x (aW st) s.heap.objs.size f cdv))->rX (ir (sV P w) P w K mg base N x (aW st) f cdv A outer s H E) true (cq st) body):
  Kn P w K mg base (sV P w) (k+1) x ps (Iu ps.length (eU N body)):=let⟨⟨f,fd,F,m,b⟩⟩:=E;⟨⟨f,fd,fnX F S (o f),m,F.kp,b⟩⟩
end
section
variable {X:Cx} {k:Nat} {x:Str} {ps:List Str} {a:Expr} {es:List Expr} {p pos:Pos}
theorem fJ (G:Kn X.prog X.w X.K X.mg X.base (sV X.prog X.w) k x ps (Iu n mf)) (hr:cX k X.A) (ha:Mb X (a :: es) fxs)
  (hg:Gl X x:=by rfl) (hdb:(x == ("__debug__":Str))=false:=by decide) (he:starEach (a :: es) X.env=(false,eval a X.env) :: starEach es X.env:=by rfl) (hpl:(backTo pos (starEach es X.env)).any (·.1)=false:=by rfl) :
  Mg X (.Call (.Name x p) (a :: es) [] pos) (bX fxs fun ds=>lift (if ds.length=n then mf ds else none)):=let ⟨⟨_,_,F,m,c,b⟩⟩:=G;A7 F hr m c b ha hg hdb he hpl
end
end Jt
namespace L2
open PySem PySem.Spec PyProof.Rows
section
variable {P:Program} {w:World} {H:Hp} {h:Heap} {a:Addr}
theorem rd_of {u:HO} (ok:lh P w H h) (e:Rd H a u):d8 P w H h a u:=e.ok ok
end
end L2
namespace Jt.So
open PySem L2 PySem.Spec PyProof.Rows PySem.W
noncomputable def WpT{α:Type}(g:Nat->Nat->Bool)(n:Nat):KasT α->(α->Prop)->Prop
 | .ret a,R=>R a
 | .ask i j k,R=>i<n/\j<n/\WpT g n (k (g i j)) R
section
variable {g:Nat->Nat->Bool} {n:Nat}
theorem WpT.bind {R:β->Prop}:∀ {t:KasT α},WpT g n t (fun a=>WpT g n (f a) R)->WpT g n (t.bind f) R
 | .ret _,h=>h
 | .ask i j k,h=>⟨h.1,h.2.1,WpT.bind (t:=k (g i j)) h.2.2⟩
theorem WpT.mono{R S:α->Prop}(o: ∀a,R a->S a): ∀{t:KasT α},WpT g n t R->WpT g n t S
 | .ret _,h=>o _ h
 | .ask i j k,h=>⟨h.1,h.2.1,WpT.mono o (t:=k (g i j)) h.2.2⟩
theorem WpT.ev{R:α->Prop}: ∀{t:KasT α},WpT g n t R->R (OV g t)
 | .ret _,h=>h
 | .ask i j k,h=>WpT.ev (t:=k (g i j)) h.2.2
theorem WpT.kas {R:α->Prop} (hc:∀ i j C,i < n->j < n->C (g i j) s->cmp i j C s):∀ {t:KasT α},WpT g n t R->Q (OV g t) s->t.kasWp cmp Q s
 | .ret _,_,h=>h
 | .ask i j k,hw,h=>hc i j _ hw.1 hw.2.1 (WpT.kas hc (t:=k (g i j)) hw.2.2 h)
noncomputable abbrev x9(g:Nat->Nat->Bool)(a b:Nat):Prop:=g b a=false
structure OrdG (g:Nat->Nat->Bool):Prop where
 tr:∀ a b c,x9 g a b->x9 g b c->x9 g a c
 as:∀ a b,g a b=true->x9 g a b
theorem OrdG.rf(o:OrdG g)(a:Nat):x9 g a a:=by cases h:g a a with
 |false=>exact h
 |true=>have:=o.as a a h;omega
noncomputable abbrev at0(p:Array Nat)(i:Nat):Nat:=p.getD i 0
noncomputable def Bs(n:Nat)(p:Array Nat):Prop:=p.Perm (List.range n).toArray
theorem Bs.size(h:Bs n p):p.size=n:=by rw[h.size_eq];simp
theorem Bs.lt(h:Bs n p){i:Nat}(o:i<n):at0 p i<n:=by
 have C:i<p.size:=by rw[h.size];exact o
 have e:at0 p i=p[i]:=by simp_all
 have hm:p[i]∈(List.range n).toArray.toList:=(Array.perm_iff_toList_perm.mp h).mem_iff.mp (by simp);grind
theorem Bs.mir(h:Bs n p)(i j d:Nat):Bs n (mirror p i j d):=(mirror_perm _ _ _ _).trans h
theorem Bs.bub(h:Bs n p)(i d:Nat):Bs n (bubble p i d):=(bubble_perm _ _ _).trans h
theorem gG{i j:Nat}(h:p[i]?=q[j]?):at0 p i=at0 q j:=by simp_all
theorem rm{i j:Nat}(C:j<=p.size)(k:Nat):at0 (mirror p i j ((j-i)/2)) k=if i<=k/\k<j then at0 p (i+j-1-k)else at0 p k:=by
 have e:=getElem?_mirror_all (i:=i) C k;by_cases o:i<=k/\k<j;. rw[if_pos o]at e|-;exact gG e
 .rw[if_neg o]at e|-;exact gG e
theorem xl{src d:Nat}(hs:src<p.size)(hd:d<=src)(k:Nat):
  at0 (bubble p src d) k=if k=src-d then at0 p src else if src-d<k/\k<=src then at0 p (k-1)else at0 p k:=by
 have e:=getElem?_bubble hs d hd k;by_cases o:k=src-d;. rw[if_pos o]at e|-;exact gG e
 .rw[if_neg o]at e|-;by_cases C:src-d<k/\k<=src;. rw[if_pos C]at e|-;exact gG e
  .rw[if_neg C]at e|-;exact gG e
noncomputable def Up(g:Nat->Nat->Bool)(p:Array Nat)(k:Nat):Prop:= ∀i j,i<=j->j<k->x9 g (at0 p i) (at0 p j)
noncomputable def Dn(g:Nat->Nat->Bool)(p:Array Nat)(k:Nat):Prop:= ∀i j,i<=j->j<k->x9 g (at0 p j) (at0 p i)
noncomputable def Eqv(g:Nat->Nat->Bool)(a b:Nat):Prop:=x9 g a b/\x9 g b a
theorem Eqv.trans(o:OrdG g){a b c:Nat}(h:Eqv g a b)(k:Eqv g b c):Eqv g a c:=⟨o.tr _ _ _ h.1 k.1,o.tr _ _ _ k.2 h.2⟩
theorem Eqv.symm(h:Eqv g a b):Eqv g b a:=⟨h.2,h.1⟩
theorem Eqv.rf(o:OrdG g)(a:Nat):Eqv g a a:=⟨o.rf a,o.rf a⟩
theorem rk(o:OrdG g){p:Array Nat}{i j:Nat}(C:j<=p.size)(heq: ∀k,i<=k->k<j->Eqv g (at0 p k) (at0 p (j-1)))(k:Nat):
  Eqv g (at0 (mirror p i j ((j-i)/2)) k) (at0 p k):=by
 rw[rm C];split;. exact(heq _ (by omega) (by omega)).trans o (heq k (by omega) (by omega)).symm
 .exact .rf o _
theorem Up.one(o:OrdG g)(p:Array Nat):Up g p 1:= λ i j C I=>by
 have:i=j:=by omega
 subst this;exact o.rf _
theorem Up.snoc(o:OrdG g){p:Array Nat}{x:Nat}(hx:1<=x)(h:Up g p x)(h':x9 g (at0 p (x-1)) (at0 p x)):Up g p (x+1):= λ i j C U=>by
 by_cases I:j<x;. exact h i j C I
 .have:j=x:=by omega
  subst this;by_cases J:i=j;. subst J;exact o.rf _
  .exact o.tr _ _ _ (h i (j-1) (by omega) (by omega)) h'
theorem Dn.snoc(o:OrdG g){p:Array Nat}{x:Nat}(hx:1<=x)(h:Dn g p x)(h':x9 g (at0 p x) (at0 p (x-1))):Dn g p (x+1):= λ i j C U=>by
 by_cases I:j<x;. exact h i j C I
 .have:j=x:=by omega
  subst this;by_cases J:i=j;. subst J;exact o.rf _
  .exact o.tr _ _ _ h' (h i (j-1) (by omega) (by omega))
theorem Dn.eqv(o:OrdG g){p q:Array Nat}{x:Nat}(h:Dn g p x)(e: ∀k,Eqv g (at0 q k) (at0 p k)):Dn g q x:= λ i j C I=>o.tr _ _ _ (e j).1 (o.tr _ _ _ (h i j C I) (e i).2)
theorem DJ(o:OrdG g){p:Array Nat}(b:Bs n p): ∀(f x:Nat),x+f<=n->1<=x->Up g p x->
  WpT g n (kas_asc p f x) (λ m=>x<=m/\m<=x+f/\Up g p m/\(m=x+f\/g (at0 p m) (at0 p (m-1))=true))
 |0,x,_,_,h=>⟨Nat.le_refl _,Nat.le_refl _,h,.inl rfl⟩
 |f+1,x,hx,I,h=>by refine⟨b.lt (by omega),b.lt (by omega),?_⟩;cases C:g (p.getD x 0) (p.getD (x-1) 0)with
  |true=>exact⟨Nat.le_refl _,by omega,h,.inr C⟩
  |false=>refine WpT.mono (λ m hm=>?_) (DJ o b f (x+1) (by omega) (by omega) (h.snoc o I C));grind
noncomputable def DI(g:Nat->Nat->Bool)(n:Nat)(p:Array Nat)(x q:Nat):Prop:=Bs n p/\Dn g p x/\q+1<=x/\ ∀i,x-(q+1)<=i->i<x->Eqv g (at0 p i) (at0 p (x-1))
theorem Bg(o:OrdG g): ∀(f:Nat)(p:Array Nat)(x q:Nat),x+f<=n->DI g n p x q->
  WpT g n (kas_desc f p x q) (λ r=>x<=r.2.1/\r.2.1<=x+f/\DI g n r.1 r.2.1 r.2.2)
 |0,p,x,q,_,h=>⟨Nat.le_refl _,Nat.le_refl _,h⟩
 |f+1,p,x,q,hx,h=>by
  obtain⟨b,d,hq,he⟩:=h;have sz:x<=p.size:=by rw[b.size];omega
  refine⟨b.lt (by omega),b.lt (by omega),?_⟩;have next: ∀{C:Array Nat}{J:Nat},DI g n C (x+1) J->WpT g n (kas_desc f C (x+1) J) (λ r=>x<=r.2.1/\r.2.1<=x+(f+1)/\DI g n r.1 r.2.1 r.2.2):= λ hd=>
   WpT.mono (λ r hr=>⟨by omega,by omega,hr.2.2⟩) (Bg o f _ (x+1) _ (by omega) hd);have U: ∀(C:Array Nat),∀i,x+1-(0+1)<=i->i<x+1->Eqv g (at0 C i) (at0 C (x+1-1)):= λ C i h1 h2=>by
   have:i=x+1-1:=by omega
   rw[this];exact .rf o _
  cases hc:g (p.getD x 0) (p.getD (x-1) 0)with
  |true=>
   have dn:Dn g p (x+1):=d.snoc o (by omega) (o.as _ _ hc);by_cases I:q>0;. rw[if_pos I];exact next ⟨b.mir _ _ _,dn.eqv o (rk o sz he),by omega,U _⟩
   .rw[if_neg I];exact next ⟨b,dn,by omega,U _⟩
  |false=>refine⟨b.lt (by omega),b.lt (by omega),?_⟩;cases hd:g (p.getD (x-1) 0) (p.getD x 0)with
   |true=>exact⟨Nat.le_refl _,by show x<=x+(f+1);omega,b,d,hq,he⟩
   |false=>
    have eq:Eqv g (at0 p x) (at0 p (x-1)):=⟨hd,hc⟩;refine next ⟨b,d.snoc o (by omega) hd,by omega,λ i h1 h2=>?_⟩;by_cases hi:i=x;. subst hi;exact .rf o _
    .exact(he i (by omega) (by omega)).trans o eq.symm
noncomputable def CR(g:Nat->Nat->Bool)(n:Nat)(r:Nat×Array Nat):Prop:=1<=r.1/\r.1<=n/\Bs n r.2/\Up g r.2 r.1
theorem yp(o:OrdG g){p:Array Nat}{x:Nat}(b:Bs n p)(I:1<=x)(hx:x<=n)(d:Dn g p x):WpT g n (kas_tail3 x n p) (CR g n):=by
 have sz:x<=p.size:=by rw[b.size];omega
 have C:Bs n (kas_rev p 0 x):=b.mir _ _ _;refine WpT.bind (WpT.mono (λ m hm=>?_) (DJ o C (n-x) x (by omega) I λ i j J U=>?_));. exact⟨by omega,by omega,C,hm.2.2.1⟩
 .show x9 g (at0 (mirror p 0 x ((x-0)/2)) i) (at0 (mirror p 0 x ((x-0)/2)) j);rw[rm sz,rm sz,if_pos (by omega),if_pos (by omega)];exact d _ _ (by omega) (by omega)
theorem nT(o:OrdG g){p:Array Nat}{x:Nat}(b:Bs n p)(hx:x+1<=n)(d:Dn g p (x+1)):WpT g n (kas_descPart x n p) (CR g n):=by
 refine WpT.bind (WpT.mono (λ r J=>?_) (Bg o (n-(x+1)) p (x+1) 0 (by omega) ⟨b,d,by omega,λ i U h2=>?_⟩))
 .obtain⟨U,h2,I,d',hq,he⟩:=J;have sz:r.2.1<=r.1.size:=by rw[I.size];omega
  by_cases C:r.2.2>0;. rw[if_pos C];exact yp o (I.mir _ _ _) (by omega) (by omega) (d'.eqv o (rk o sz he))
  .rw[if_neg C];exact yp o I (by omega) (by omega) d'
 .have:i=x+1-1:=by omega
  rw[this];exact .rf o _
theorem w_count(o:OrdG g){p:Array Nat}(b:Bs n p)(h1:1<=n):WpT g n (kas_count n p) (CR g n):=by
 refine WpT.bind (WpT.mono (λ m hm=>?_) (DJ o b (n-1) 1 (by omega) (Nat.le_refl _) (.one o p)));obtain⟨a1,a2,I,a4⟩:=hm;by_cases e:(m==n)=true;. rw[if_pos e];exact⟨a1,by omega,b,I⟩
 .rw[if_neg e];have ne:m≠n:= λ z=>e (by rw[z];exact beq_self_eq_true _);have C:g (at0 p m) (at0 p (m-1))=true:=a4.resolve_left (by omega);by_cases J:m>1;. rw[if_pos J];refine⟨b.lt (by omega),b.lt (by omega),?_⟩;cases hc:g (p.getD 0 0) (p.getD (m-1) 0)with
   |true=>exact⟨a1,by omega,b,I⟩
   |false=>
    have all: ∀k,0<=k->k<m->Eqv g (at0 p k) (at0 p (m-1)):= λ k _ hk=>⟨I k (m-1) (by omega) (by omega),o.tr _ _ _ hc (I 0 k (by omega) hk)⟩;have sz:m<=p.size:=by rw[b.size];omega
    refine nT o (b.mir _ _ _) (by omega) ?_;refine Dn.eqv o (p:=p) (λ i j U hj=>?_) (rk o sz all);by_cases aa:j<m;. exact((all j (by omega) aa).trans o (all i (by omega) (by omega)).symm).1
    .have:j=m:=by omega
     subst this;by_cases hi:i=j;. subst hi;exact o.rf _
     .exact o.tr _ _ _ (o.as _ _ C) (all i (by omega) (by omega)).2
  .have:m=1:=by omega
   subst this;refine nT o b (by omega) λ i j U hj=>?_;by_cases hi:i=j;. subst hi;exact o.rf _
   .have e1:i=0:=by omega
    have e2:j=1:=by omega
    subst e1 e2;exact o.as _ _ C
theorem qX (o:OrdG g) {p:Array Nat} {k:Nat} (b:Bs n p) (hk:k < n) (u:Up g p k):∀ (f l r:Nat),l ≤ r->r ≤ k->r - l ≤ f->(∀ i,i < l->x9 g (at0 p i) (at0 p k))->(∀ i,r ≤ i->i < k->g (at0 p k) (at0 p i)=true) ->
  WpT g n (kas_place p k f l r) (fun l'=>l' ≤ k∧(∀ i,i < l' -> x9 g (at0 p i) (at0 p k))∧∀ i,l' ≤ i->i < k->g (at0 p k) (at0 p i)=true)
 | 0,l,r,h1,h2,h3,hl,hr=>by
  have:l=r:=by omega
  subst this
  exact ⟨h2,hl,hr⟩
 | f + 1,l,r,h1,h2,h3,hl,hr=>by
  unfold kas_place
  by_cases hge:l ≥ r
  .rw [if_pos hge]
   have:l=r:=by omega
   subst this
   exact ⟨h2,hl,hr⟩
  .rw [if_neg hge]
   refine ⟨b.lt hk,b.lt (by omega),?_⟩
   cases hc:g (p.getD k 0) (p.getD ((l + r) / 2) 0) with
   | true=>
    refine qX o b hk u f l ((l + r) / 2) (by omega) (by omega) (by omega) hl fun i h4 h5=>?_
    cases hz:g (at0 p k) (at0 p i) with
    | true=>rfl
    | false=>
     have:=o.tr _ _ _ (u _ _ h4 h5) hz
     simp_all
   | false=>
    refine qX o b hk u f ((l + r) / 2 + 1) r (by omega) (by omega) (by omega) (fun i h4=>?_) hr
    exact o.tr _ _ _ (u i ((l + r) / 2) (by omega) (by omega)) hc
theorem Iw (o:OrdG g):∀ (f:Nat) (p:Array Nat) (k:Nat),Bs n p->k + f ≤ n->Up g p k->WpT g n (kas_bin f p k) (fun q=>Bs n q∧Up g q (k + f))
 | 0,p,k,b,_,u=>⟨b,u⟩
 | f + 1,p,k,b,hk,u=>by
  refine WpT.bind (WpT.mono (fun l hl=>?_) (qX o b (by omega) u k 0 k (by omega) (Nat.le_refl _) (by omega) (fun i h=>by omega) fun i h1 h2=>by omega))
  obtain ⟨hlk,hlo,hhi⟩:=hl
  have ks:k < p.size:=by rw [b.size];omega
  refine WpT.mono (fun q hq=>⟨hq.1,by grind⟩) (Iw o f _ (k + 1) (b.bub _ _) (by omega) fun i j hij hj=>?_)
  rw [xl ks (by omega),xl ks (by omega),show k - (k - l)=l by omega]
  generalize at0 p k=c at hlo hhi ⊢
  repeat' split
  all_goals first
   | (exfalso;omega)
   | exact o.rf _
   | exact hlo _ (by omega)
   | exact o.as _ _ (hhi _ (by omega) (by omega))
   | exact u _ _ (by omega) (by omega)
theorem w_sort(o:OrdG g)(C:1<=n):WpT g n (kas_sort n) (λ p=>Bs n p/\Up g p n):=by
 refine WpT.bind (WpT.mono (λ r I=>?_) (w_count o (Array.Perm.refl _) C));obtain⟨a1,a2,b,u⟩:=I;by_cases h:r.1<n;. rw[if_pos h];refine WpT.mono (λ q J=>⟨J.1,?_⟩) (Iw o (n-max r.1 1) r.2 (max r.1 1) b (by omega) (by rw[show max r.1 1=r.1 by omega];exact u));simp_all
 .rw[if_neg h];exact⟨b,by rw[show n=r.1 by omega];exact u⟩
end
end Jt.So
namespace Jt
open PySem
noncomputable def d_(b:Nat):Nat->Nat×Nat
 |0=>(b%8,b)
 |m+1=>SetTable.leap 7 (d_ b m).1 (d_ b m).2
theorem Cf(b:Nat): ∀m,(d_ b m).1<8
 |0=>Nat.mod_lt _ (by omega)
 |m+1=>Nat.mod_lt _ (by omega)
theorem IE(b:Nat): ∀m,(d_ b m).2=b/32^m
 |0=>by simp[d_]
 |m+1=>by show(d_ b m).2/32=_;rw[IE b m,Nat.div_div_eq_div_mul,Nat.pow_succ]
theorem xf(h:Int):SetTable.bits h<2^64:=by unfold SetTable.bits;omega
noncomputable def f7(i:Nat):Nat:=(i*5+1)%8
noncomputable def Ou:Nat->Nat->Nat
 |0,i=>i
 |k+1,i=>f7 (Ou k i)
theorem Iy(b:Nat)(o:b<2^64): ∀k,(d_ b (13+k)).1=Ou k (d_ b 13).1
 |0=>rfl
 |k+1=>by
  show((d_ b (13+k)).1*5+1+(d_ b (13+k)).2/32)%(7+1)=f7 (Ou k (d_ b 13).1);rw[Iy b o k,IE];have C:b/32^(13+k)=0:=by apply Nat.div_eq_of_lt;grind
  rw[C];rfl
theorem J_: ∀i,i<8-> ∀j,j<8-> ∃k,k<8/\Ou k i=j:=by decide+kernel
theorem GU(b:Nat)(o:b<2^64){j:Nat}(C:j<8): ∃m,m<=20/\(d_ b m).1=j:=by obtain⟨k,I,e⟩:=J_ _ (Cf b 13) j C;exact⟨13+k,by omega,by rw[Iy b o,e]⟩
theorem mq[DecidablePred p]: ∀{n:Nat},p n-> ∃m,m<=n/\p m/\ ∀k,k<m-> ¬p k
 |0,h=>⟨0,Nat.le_refl _,h,λ k o=>absurd o (Nat.not_lt_zero _)⟩
 |n+1,h=>by
  by_cases q: ∃k,k<=n/\p k;. obtain⟨k,o,C⟩:=q;obtain⟨m,a,b,c⟩:=mq C;grind
  grind
theorem MU{l:List Nat}(h:l.length<8): ∃j,j<8/\j∉l:=by
 apply Classical.byContradiction;intro z;have all: ∀j,j<8->j∈l:= λ j C=>Classical.byContradiction λ q=>z ⟨j,C,q⟩;have gen: ∀(a b:List Nat),a.Nodup->(∀x∈a,x∈b)->a.length<=b.length:=by intro a;induction a with
  |nil=>intro b _ _;exact Nat.zero_le _
  |cons x r I=>intro b nd hs;have n:=List.nodup_cons.mp nd;have hx:=hs x List.mem_cons_self;have:=I (b.erase x) n.2 λ y o=>(List.mem_erase_of_ne (show y≠x from λ z=>n.1 (z▸o))).mpr (hs y (List.mem_cons_of_mem _ o));rw[List.length_erase_of_mem hx]at this;have p:=List.length_pos_of_mem hx;rw[List.length_cons];omega
 have:=gen (List.range 8) l List.nodup_range λ x hx=>all x (List.mem_range.mp hx);grind
theorem Er(h:Int){l:List Nat}(o:l.length<8): ∃M,M<=20/\(d_ (SetTable.bits h) M).1∉l/\ ∀m,m<M->(d_ (SetTable.bits h) m).1∈l:=by obtain⟨j,C,I⟩:=MU o;obtain⟨m,hm,e⟩:=GU _ (xf h) C;obtain⟨M,a,b,c⟩:=mq (p:= λ m=>(d_ (SetTable.bits h) m).1∉l) (n:=m) (by simp_all);grind
structure T7 (t:SetTable):Prop where
 mask:t.mask=7
 dum:t.dummies = #[]
 up:Up t.place
 lt:∀ j ∈ t.place.toList,j < 8
noncomputable def vg(b m:Nat):SetTable.Probe:=⟨(d_ b m).1,0,(d_ b m).1,(d_ b m).2,none⟩
section
variable {t:SetTable}
theorem T7.start(T:T7 t)(h:Int):t.probeStart h=vg (SetTable.bits h) 0:=by
 unfold SetTable.probeStart;rw[T.mask];have:SetTable.runEnd 7 (SetTable.bits h%(7+1)) -SetTable.bits h%(7+1)=0:=by unfold SetTable.runEnd;simp
 dsimp only;rw[this];rfl
theorem T7.adv(T:T7 t)(b m:Nat):t.advance (vg b m)=vg b (m+1):=by
 unfold SetTable.advance;rw[T.mask];have e:SetTable.runEnd 7 (d_ b (m+1)).1-(d_ b (m+1)).1=0:=by unfold SetTable.runEnd;simp
 show(⟨(d_ b (m+1)).1,SetTable.runEnd 7 (d_ b (m+1)).1-(d_ b (m+1)).1,(d_ b (m+1)).1,(d_ b (m+1)).2,none⟩:SetTable.Probe)=_;rw[e];rfl
theorem kQ(u:Up xs){j:Nat}(h:j∈xs.toList):xs[SetTable.below xs j]?=some j:=
 Classical.byContradiction λ z=>y6 u z h
theorem T7.free(T:T7 t){j:Nat}(h:j∉t.place.toList):t.slot j= .empty:=by
 unfold SetTable.slot;have o:SetTable.has t.dummies j=false:=by rw[T.dum];rfl
 grind
theorem T7.live(T:T7 t){j:Nat}(h:j∈t.place.toList):t.slot j= .live (SetTable.below t.place j):=by unfold SetTable.slot;dsimp only;rw[kQ T.up h];simp
theorem T7.at(T:T7 t){i j:Nat}(h:t.place[i]?=some j):SetTable.below t.place j=i:=by
 have hm:j∈t.place.toList:=by grind
 have e:=kQ T.up hm;rcases Nat.lt_trichotomy (SetTable.below t.place j) i with z|z|z
 .exact absurd (T.up.lt z e h) (Nat.lt_irrefl _)
 .exact z
 .exact absurd (T.up.lt z h e) (Nat.lt_irrefl _)
theorem T7.go(T:T7 t){f:Nat->Int}{h:Int}{b:Nat}: ∀(k m fuel:Nat),k<fuel->(∀o,m<=o->o<m+k->(d_ b o).1∈t.place.toList/\f (SetTable.below t.place (d_ b o).1)≠h)->
  (((d_ b (m+k)).1∉t.place.toList->SetTable.probe.go t f h fuel (vg b m)=some (.empty (d_ b (m+k)).1 none))/\
  ((d_ b (m+k)).1∈t.place.toList->f (SetTable.below t.place (d_ b (m+k)).1)=h->SetTable.probe.go t f h fuel (vg b m)=some (.candidate (d_ b (m+k)).1 (SetTable.below t.place (d_ b (m+k)).1) (vg b (m+k+1)))))
 |0,m,fuel+1,_,_=>by
  rw[Nat.add_zero];refine⟨λ C=>?_,λ hm hf=>?_⟩;. unfold SetTable.probe.go;rw[show(vg b m).j=(d_ b m).1 from rfl,T.free C];rfl
  .unfold SetTable.probe.go;rw[show(vg b m).j=(d_ b m).1 from rfl,T.live hm];dsimp only;rw[if_pos (by simpa using hf),T.adv]
 |k+1,m,fuel+1,I,hs=>by
  have h0:=hs m (Nat.le_refl _) (by omega);have J:=T7.go T (f:=f) (h:=h) (b:=b) k (m+1) fuel (by omega) λ o U h2=>hs o (by omega) (by omega);have e:SetTable.probe.go t f h (fuel+1) (vg b m)=SetTable.probe.go t f h fuel (vg b (m+1)):=by conv=>lhs;unfold SetTable.probe.go;rw[show(vg b m).j=(d_ b m).1 from rfl,T.live h0.1];dsimp only;rw[if_neg (by simp_all),T.adv]
  grind
theorem T7.probe(T:T7 t){f:Nat->Int}{h:Int}{b:Nat}{k m:Nat}(C:k<=20)(hs: ∀o,m<=o->o<m+k->(d_ b o).1∈t.place.toList/\f (SetTable.below t.place (d_ b o).1)≠h):
  (((d_ b (m+k)).1∉t.place.toList->t.probe f h (vg b m)=some (.empty (d_ b (m+k)).1 none))/\
  ((d_ b (m+k)).1∈t.place.toList->f (SetTable.below t.place (d_ b (m+k)).1)=h->t.probe f h (vg b m)=some (.candidate (d_ b (m+k)).1 (SetTable.below t.place (d_ b (m+k)).1) (vg b (m+k+1))))):=T.go k m _ (by unfold SetTable.turns;omega) hs
theorem pN(t:SetTable)(f:Nat->Int)(h:Int)(b M:Nat): ∀(d m:Nat),m+d=M-> ∃k,m+k<=M/\(∀o,m<=o->o<m+k->f (SetTable.below t.place (d_ b o).1)≠h)/\(m+k=M\/f (SetTable.below t.place (d_ b (m+k)).1)=h)
 |0,m,e=>⟨0,by omega,λ o C I=>by omega,.inl (by omega)⟩
 |d+1,m,e=>by
  by_cases q:f (SetTable.below t.place (d_ b m).1)=h;. exact⟨0,by omega,λ o C I=>by omega,.inr q⟩
  .obtain⟨k,C,I,J⟩:=pN t f h b M d (m+1) (by omega);refine⟨k+1,by omega,λ o a1 a2=>?_,?_⟩;. grind
   grind
end
theorem mz(xs:Array α){p:Nat}(x:α)(o:p<=xs.size)(i:Nat):(SetTable.insertAt xs p x)[i]?=if i<p then xs[i]? else if i=p then some x else xs[i-1]?:=by unfold SetTable.insertAt;grind
theorem lq(xs:Array α)(p:Nat)(x:α)(o:p<=xs.size):(SetTable.insertAt xs p x).toList.Perm (x::xs.toList):=by
 unfold SetTable.insertAt;rw[Array.toList_append,Array.toList_push,List.append_assoc];have e:xs.toList=(xs.extract 0 p).toList++(xs.extract p xs.size).toList:=by
  rw[<- Array.toList_append];simp_all
 conv=>rhs;rw[e]
 exact List.perm_middle
end Jt
namespace Jt.Tu
open PySem Jt
structure cT (w:World) (h:Heap) (a:Addr) (l:List (Int × Value)) (ep:Nat) (t:SetTable):Prop where
 obj:∃ o,h.get? a=some o∧o.ExactSet∧o.data=.set l.toArray ep t
 few:l.length < scanBound
 fits:t.fits l.length=true
 led:t.led = !w.params.followText "set-order"
 tb:Tb t
theorem cT.at (x:cT w h a l ep t) (k:∀ o,h.get? a=some o->h'.get? a=some o):cT w h' a l ep t:= by
 obtain ⟨o,ho,hr⟩:=x.obj
 exact ⟨⟨o,k o ho,hr⟩,x.few,x.fits,x.led,x.tb⟩
section
variable {prog:Program} {w:World} {A:Around} {E:Value->Shared->Prop} {s:Shared} {I S:Addr} {l:List (Int × Value)} {ep:Nat} {t:SetTable} {i:Nat} {f0:Value}
theorem cT.state(x:cT w s.heap S l ep t)(h:Q (l.toArray,ep,t) s):wpAny (model prog w) A (setState S) Q E s:=by obtain⟨o,C,_,hd⟩:=x.obj;exact wpAny_setState_of C hd (by simpa using x.fits) h
theorem cT.ty(x:cT w s.heap S l ep t):s.TypeIs (.ref S) "set":=by obtain⟨o,C,hx,_⟩:=x.obj;exact⟨o,C,hx.1⟩
theorem lX{Q:Option Value->Shared->Prop}(C:vh s.heap I S f0 i l.length ep)(x:cT w s.heap S l ep t)
  (h:wpAny (model prog w) A.in1 (if let .int slot _:=f0 then(do
    match<- setNext S slot.toNat i ep with
    |some (x,next)=>
     setField (.ref I) 0 (rawInt next)
     setField (.ref I) 1 (rawInt (i+1))
     ret x
    |none=>setField (.ref I) 2 .none;raiseNew (<- newExc (.type "StopIteration") []))
   else(do
    let some places<- seqItems? f0|unsupported "internal:set_iterator"
    match places[i]? with
    |some (.int place _)=>
     let x<- setNextDrawn S place.toNat ep
     setField (.ref I) 1 (rawInt (i+1))
     ret x
    |some _=>unsupported "internal:set_iterator"
    |none=>setField (.ref I) 0 (rawInt 0);setField (.ref I) 2 .none;raiseNew (<- newExc (.type "StopIteration") [])))
   (λ fin s'=> ∃v,fin= .done (.ret v)/\Q (some v) s') (λ e s'=>(∃a o,e= .ref a/\s'.heap.get? a=some o/\o.cls= .type "StopIteration")/\Q none s') s):
  wpAny (model prog w) A (pyNext (.ref I)) Q E s:=by
 have J:s.TypeIs (.ref I) "set_iterator":=⟨_,C,rfl⟩;refine wpAny_bind (wpAny_attempt (wpAny_callSpecial?_slot (name:=Str.ofString "__next__") J fZ (wpAny_call_entry fZ J we ?_ (vX _))));refine wpAny_bind (m:=slotArgs "__next__" 0 ⟨[.ref I],[]⟩) (wpAny_pure ?_);refine wpAny_bind (wpAny_fieldsOf C rfl ?_);refine wpAny_bind ?_;refine wpAny_bind (x.state (wpAny_pure ?_));rw[if_neg (by simp)];refine wpAny_mono h (λ fin s' h'=>?_) λ e s' h'=>?_;. obtain⟨v,rfl,q⟩:=h';exact⟨v,rfl,wpAny_pure q⟩
 .obtain⟨⟨a,o,rfl,U,hc⟩,q⟩:=h';exact wpAny_bind (wpAny_isInstance (T:="StopIteration") (b:=true) ⟨o,U,hc⟩ isSubtype_stop (wpAny_pure q))
end
section
variable {prog:Program} {w:World} {A:Around} {E:Value->Shared->Prop} {s:Shared} {I S:Addr} {l:List (Int × Value)} {ep:Nat} {t:SetTable} {i:Nat} {f0:Value}
theorem xU{slot nx:Nat}{v:Value}(C:I≠S)(hI:vh s.heap I S (.int slot 0) i l.length ep)(x:cT w s.heap S l ep t)
  (hn: ∀(Q':Option (Value×Nat)->Shared->Prop)(E':Value->Shared->Prop),Q' (some (v,nx)) s->wpAny (model prog w) A.in1 (setNext S slot i ep) Q' E' s)
  (hQ: ∀h',vh h' I S (.int nx 0) (i+1) l.length ep->cT w h' S l ep t->(∀b o,b≠I->s.heap.get? b=some o->h'.get? b=some o)->Q (some v) { s with heap:=h' }):
  wpAny (model prog w) A (pyNext (.ref I)) Q E s:=by
 refine lX hI x ?_;refine wpAny_bind (hn _ _ ?_);refine wpAny_bind (wpAny_setField_rec hI (by simp) λ h1 aa J=>?_);refine wpAny_bind (wpAny_setField_rec aa (by simp) λ h2 ab U=>wpAny_pure ⟨v,rfl,?_⟩);refine hQ h2 (by simpa[vh,rawInt]using ab) (x.at λ o e=>?_) λ b o hb e=>?_;. rw[U.2 S C.symm,J.2 S C.symm];exact e
 .rw[U.2 b hb,J.2 b hb];exact e
theorem kZ{slot:Nat}(hh:A.handled=none)(J:vh s.heap I S (.int slot 0) i l.length ep)(x:cT w s.heap S l ep t)
  (hn: ∀(U:Option (Value×Nat)->Shared->Prop)(E':Value->Shared->Prop),U none s->wpAny (model prog w) A.in1 (setNext S slot i ep) U E' s)
  (hQ: ∀h',(∀b o,b≠I->s.heap.get? b=some o->h'.get? b=some o)->Q none { s with heap:=h' }):
  wpAny (model prog w) A (pyNext (.ref I)) Q E s:=by refine lX J x ?_;refine wpAny_bind (hn _ _ ?_);refine wpAny_bind (wpAny_setField_rec J (by simp) λ h1 aa C=>?_);refine nI (s:={ s with heap:=h1 }) hh λ h' e kp he=>?_;obtain⟨o,ho,hc⟩:=he;refine⟨⟨e,o,rfl,ho,hc⟩,hQ h' λ b o hb e=>kp b o ?_⟩;rw[C.2 b hb];exact e
theorem GC{T:Addr}{places:Array Value}{p:Nat}{v:Int×Value}(J:I≠S)(aa:I≠T)(hI:vh s.heap I S (.ref T) i l.length ep)(x:cT w s.heap S l ep t)
  (hT:s.heap.get? T=some { cls:= .type "tuple",data:= .seq places })(hp:places[i]?=some (.int p 0))(hv:l[p]?=some v)
  (hQ: ∀h',vh h' I S (.ref T) (i+1) l.length ep->cT w h' S l ep t->(∀b o,b≠I->s.heap.get? b=some o->h'.get? b=some o)->Q (some (v.2)) { s with heap:=h' }):
  wpAny (model prog w) A (pyNext (.ref I)) Q E s:=by
 refine lX hI x ?_;refine wpAny_bind (wpAny_seqItems hT rfl ?_);dsimp only;rw[hp];refine wpAny_bind ?_;refine wpAny_bind (x.state ?_);dsimp only;rw[if_neg (by simp)];have:l.toArray[(p:Int).toNat]?=some v:=by simp[hv]
 rw[this];refine wpAny_pure ?_;refine wpAny_bind (wpAny_setField_rec hI (by simp) λ h1 U C=>wpAny_pure ⟨_,rfl,?_⟩);refine hQ h1 (by simpa[vh,rawInt]using U) (x.at λ o e=>?_) λ b o hb e=>?_;. rw[C.2 S J.symm];exact e
 .rw[C.2 b hb];exact e
theorem ux{T:Addr}{places:Array Value}(hh:A.handled=none)(hI:vh s.heap I S (.ref T) i l.length ep)(x:cT w s.heap S l ep t)
  (hT:s.heap.get? T=some { cls:= .type "tuple",data:= .seq places })(hp:places[i]?=none)
  (hQ: ∀h',(∀b o,b≠I->s.heap.get? b=some o->h'.get? b=some o)->Q none { s with heap:=h' }):
  wpAny (model prog w) A (pyNext (.ref I)) Q E s:=by refine lX hI x ?_;refine wpAny_bind (wpAny_seqItems hT rfl ?_);dsimp only;rw[hp];refine wpAny_bind (wpAny_setField_rec hI (by simp) λ h1 C J=>?_);refine wpAny_bind (wpAny_setField_rec C (by simp) λ h2 aa U=>?_);refine nI (s:={ s with heap:=h2 }) hh λ h' e kp he=>?_;obtain⟨o,ho,hc⟩:=he;refine⟨⟨e,o,rfl,ho,hc⟩,hQ h' λ b o hb e=>kp b o ?_⟩;rw[U.2 b hb,J.2 b hb];exact e
theorem sy{n:Nat}(C:vh s.heap I S f0 i n ep)(h:Q (.ref I) s):wpAny (model prog w) A (pyIter (.ref I)) Q E s:=by have o:s.TypeIs (.ref I) "set_iterator":=⟨_,C,rfl⟩;refine wpAny_pyIter_slot o mj (wpAny_call_entry mj o vq ?_ (wu _));exact wpAny_pure ⟨_,rfl,"set_iterator",_,o,fZ.lookup,h⟩
end
section
variable {prog:Program} {w:World} {A:Around} {E:Value->Shared->Prop} {s:Shared} {I S:Addr} {l:List (Int × Value)} {ep:Nat} {t:SetTable} {i:Nat}
theorem y_(x:cT w s.heap S l ep t)(h:Q (!w.params.followText "set-order"&&(!t.plain&&decide (l.length>1))) s):wpAny (model prog w) A (setDrawn S) Q E s:=by refine wpAny_bind (x.state ?_);refine wpAny_bind (lR ?_);exact wpAny_pure h
theorem p9(hw:w.params.followText "set-order"=true)(x:cT w s.heap S l ep t)(h:Q (((pickOrder (w.params.setOrder S ep) l.toArray)[i]?).map λ e=>(e.2,slot)) s):
  wpAny (model prog w) A (setNext S slot i ep) Q E s:=by refine wpAny_bind (x.state ?_);refine wpAny_bind (lR ?_);rw[hw,if_pos rfl,if_neg (by simp)];refine wpAny_bind ?_;refine wpAny_bind (x.state ?_);refine wpAny_bind (lR ?_);rw[hw];exact wpAny_bind (wpAny_askSetting (wpAny_pure (wpAny_pure h)))
theorem nJ(hw:w.params.followText "set-order"=false)(hd:(!t.plain&&decide (l.length>1))=false)(x:cT w s.heap S l ep t)
  (h:Q (match l.toArray[SetTable.below t.place slot]?,t.place[SetTable.below t.place slot]? with
   |some (_,x),some j=>some (x,j+1)
   |_,_=>none) s):wpAny (model prog w) A (setNext S slot i ep) Q E s:=by
 refine wpAny_bind (x.state ?_);refine wpAny_bind (lR ?_);rw[hw,if_neg Bool.false_ne_true];refine(show∀{b:Bool}{m k:Sem (Option (Value×Nat))},b=false->wpAny (model prog w) A k Q E s->wpAny (model prog w) A (if b=true then m else k) Q E s from λ o C=>by simp_all) hd ?_;refine wpAny_bind ?_;have U:t.led=true:=by rw[x.led,hw];rfl
 refine(show∀{b:Bool}{m k:Sem PUnit}{J:PUnit->Shared->Prop},b=false->wpAny (model prog w) A k J E s->wpAny (model prog w) A (if b=true then m else k) J E s from λ o C=>by rw[o];exact C) (show(!t.led&& !l.toArray.isEmpty)=false by rw[U];rfl) ?_;exact wpAny_pure (wpAny_pure h)
noncomputable def q_(prog:Program)(w:World)(I S:Addr)(l:List (Int×Value))(h':Heap)(top:Addr):Prop:=
 ∃(ord:List (Int×Value)) (fp:List Addr) (St:Nat->Heap->Prop),ord.Perm l/\(∀A:Around,A.handled=none->Walks prog w A I fp [I] l.length (λ i v=> ∃p,ord[i]?=some p/\v=p.2) St)/\St 0 h'/\
  (∀i h,St i h-> ∃o,h.get? I=some o/\o.cls= .type "set_iterator")/\I∈fp/\ ∀b∈fp,b<h'.objs.size/\(b=S\/top<=b)
theorem tL {h':Heap} {top:Addr} (hw:w.params.followText "set-order" = true) (hIS:I ≠ S) (ht:top ≤ I) (hI:vh h' I S (.int 0 0) 0 l.length ep) (x:cT w h' S l ep t):q_ prog w I S l h' top:= by
 have p0:=zg (w.params.setOrder S ep) l.toArray
 obtain ⟨ord,eord⟩:∃ ord,ord=(pickOrder (w.params.setOrder S ep) l.toArray).toList:=⟨_,rfl⟩
 have pord:ord.Perm l:=by rw [eord];simpa using p0
 have eg:∀ i:Nat,(pickOrder (w.params.setOrder S ep) l.toArray)[i]? = ord[i]?:=fun i=>by
  rw [<- Array.getElem?_toList,eord]
 have hlen:ord.length=l.length:=pord.length_eq
 refine ⟨ord,[I,S],fun i h=>vh h I S (.int 0 0) i l.length ep∧cT w h S l ep t,pord,fun A hh=>⟨?_,?_,?_,?_,?_⟩,⟨hI,x⟩,fun i h st=>⟨_,st.1,rfl⟩,by simp,fun b hb=>?_⟩
 .intro b hb
  rw [List.mem_singleton.mp hb];simp
 .intro i h h2 st k
  exact ⟨k I (by simp) _ st.1,st.2.at fun o e=>k S (by simp) o e⟩
 .intro i s Q E hi st hQ
  have hx:ord[i]? = some ord[i]:=List.getElem?_eq_getElem (by omega)
  refine xU (v:=ord[i].2) (nx:=0) hIS st.1 st.2 (fun Q' E' q=>p9 hw st.2 ?_) fun h2 a1 a2 a3=>hQ _ h2 s.toks ⟨_,hx,rfl⟩ ⟨a1,a2⟩ fun b o hb e=>a3 b o (fun z=>hb (by rw [z];simp)) e
  grind
 .intro s Q E st hQ
  refine kZ hh st.1 st.2 (fun Q' E' q=>p9 hw st.2 ?_) fun h2 a3=>hQ h2 s.toks fun b o hb e=>a3 b o (fun z=>hb (by rw [z];simp)) e
  rw [eg,List.getElem?_eq_none (by omega)];exact q
 .intro i s Q E st hQ
  exact sy st.1 hQ
 .rcases List.mem_cons.mp hb with e | hb
  .rw [e];exact ⟨Heap.lt_size hI,.inr ht⟩
  .rw [List.mem_singleton.mp hb]
   obtain ⟨o,ho,_⟩:=x.obj
   exact ⟨Heap.lt_size ho,.inl rfl⟩
theorem sh {h':Heap} {top:Addr} (hw:w.params.followText "set-order" = false) (hd:(!t.plain && decide (l.length > 1))=false) (hIS:I ≠ S) (ht:top ≤ I) (hI:vh h' I S (.int 0 0) 0 l.length ep) (x:cT w h' S l ep t):q_ prog w I S l h' top:= by
 have hsz:t.place.size=l.length:= by
  have:=x.fits
  simp only [SetTable.fits,Bool.and_eq_true,beq_iff_eq] at this
  exact this.1
 have u:Up t.place:= by
  cases hp:t.plain with
  | true=>exact x.tb hp
  | false=>
   rw [hp] at hd
   have hl:¬ l.length > 1:=by simpa using hd
   unfold Up
   have hlt:t.place.toList.length ≤ 1:=by rw [Array.length_toList];omega
   generalize t.place.toList=q at hlt
   match q,hlt with
   | [],_=>exact List.Pairwise.nil
   | [_],_=>exact List.pairwise_singleton _ _
   | _ :: _ :: _,h=>simp at h
 refine ⟨l,[I,S],fun i h=>∃ slot:Nat,vh h I S (.int slot 0) i l.length ep∧cT w h S l ep t∧SetTable.below t.place slot=i,List.Perm.refl _,fun A hh=>⟨?_,?_,?_,?_,?_⟩,⟨0,hI,x,wU u⟩,fun i h ⟨_,st,_⟩=>⟨_,st,rfl⟩,by simp,fun b hb=>?_⟩
 .intro b hb
  rw [List.mem_singleton.mp hb];simp
 .rintro i h h2 ⟨slot,st1,st2,st3⟩ k
  exact ⟨slot,k I (by simp) _ st1,st2.at fun o e=>k S (by simp) o e,st3⟩
 .rintro i s Q E hi ⟨slot,st1,st2,st3⟩ hQ
  have hx:l[i]? = some l[i]:=List.getElem?_eq_getElem hi
  have hp:t.place[i]? = some t.place[i]:=by simp [hsz,hi]
  refine xU (v:=l[i].2) (nx:=t.place[i] + 1) hIS st1 st2 (fun Q' E' q=>nJ hw hd st2 ?_) fun h2 a1 a2 a3=>hQ _ h2 s.toks ⟨_,hx,rfl⟩ ⟨_,a1,a2,vZ u hp⟩ fun b o hb e=>a3 b o (fun z=>hb (by rw [z];simp)) e
  simp_all
 .rintro s Q E ⟨slot,st1,st2,st3⟩ hQ
  refine kZ hh st1 st2 (fun Q' E' q=>nJ hw hd st2 ?_) fun h2 a3=>hQ h2 s.toks fun b o hb e=>a3 b o (fun z=>hb (by rw [z];simp)) e
  have e1:l.toArray[l.length]? = none:=by simp
  rw [st3,e1];exact q
 .rintro i s Q E ⟨slot,st1,st2,st3⟩ hQ
  exact sy st1 hQ
 .rcases List.mem_cons.mp hb with e | hb
  .rw [e];exact ⟨Heap.lt_size hI,.inr ht⟩
  .rw [List.mem_singleton.mp hb]
   obtain ⟨o,ho,_⟩:=x.obj
   exact ⟨Heap.lt_size ho,.inl rfl⟩
theorem u4 {h':Heap} {top T:Addr} {ys:List Nat} (hp:ys.Perm (List.range l.length)) (hIS:I ≠ S) (hIT:I ≠ T) (ht:top ≤ I) (htT:top ≤ T) (hI:vh h' I S (.ref T) 0 l.length ep) (x:cT w h' S l ep t)
  (hT:h'.get? T=some { cls:=.type "tuple",data:=.seq (ys.map fun (i:Nat)=>rawInt i).toArray }):q_ prog w I S l h' top:= by
 have hyl:ys.length=l.length:=by rw [hp.length_eq,List.length_range]
 have hin:∀ y ∈ ys,y < l.length:=fun y hy=>List.mem_range.mp (hp.mem_iff.mp hy)
 have hpo:(ys.filterMap fun i=>l[i]?).Perm l:=(hp.filterMap _).trans (by rw [List.filterMap_getElem?_range_length])
 have eg:∀ i (h:i < ys.length),(ys.filterMap fun i=>l[i]?)[i]? = l[ys[i]]?:= by
  have gen:∀ (zs:List Nat),(∀ y ∈ zs,y < l.length)->∀ i (h:i < zs.length),(zs.filterMap fun i=>l[i]?)[i]? = l[zs[i]]?:= by
   intro zs
   induction zs with
   | nil=>intro _ i h;exact absurd h (Nat.not_lt_zero _)
   | cons z zs ih=>
    intro hz i h
    have hzl:z < l.length:=hz z List.mem_cons_self
    have e1:l[z]? = some l[z]:=List.getElem?_eq_getElem hzl
    rw [List.filterMap_cons_some e1]
    cases i with
    | zero=>simp [e1]
    | succ i=>simpa using ih (fun y hy=>hz y (List.mem_cons_of_mem _ hy)) i (by simpa using h)
  grind
 refine ⟨ys.filterMap fun i=>l[i]?,[I,S,T],fun i h=>vh h I S (.ref T) i l.length ep∧cT w h S l ep t∧h.get? T=some { cls:=.type "tuple",data:=.seq (ys.map fun (i:Nat)=>rawInt i).toArray },hpo,fun A hh=>⟨?_,?_,?_,?_,?_⟩,⟨hI,x,hT⟩,fun i h st=>⟨_,st.1,rfl⟩,by simp,fun b hb=>?_⟩
 .intro b hb
  rw [List.mem_singleton.mp hb];simp
 .rintro i h h2 ⟨st1,st2,st3⟩ k
  exact ⟨k I (by simp) _ st1,st2.at fun o e=>k S (by simp) o e,k T (by simp) _ st3⟩
 .rintro i s Q E hi ⟨st1,st2,st3⟩ hQ
  have hi':i < ys.length:=by omega
  have hyi:ys[i] < l.length:=hin _ (List.getElem_mem hi')
  have hx:l[ys[i]]? = some l[ys[i]]:=List.getElem?_eq_getElem hyi
  refine GC hIS hIT st1 st2 st3 (p:=ys[i]) (by simp [hi',rawInt]) hx fun h2 a1 a2 a3=>hQ _ h2 s.toks ⟨_,(eg i hi').trans hx,rfl⟩ ⟨a1,a2,a3 T _ (fun z=>hIT z.symm) st3⟩ fun b o hb e=>a3 b o (fun z=>hb (by rw [z];simp)) e
 .rintro s Q E ⟨st1,st2,st3⟩ hQ
  exact ux hh st1 st2 st3 (by simp [hyl]) fun h2 a3=>hQ h2 s.toks fun b o hb e=>a3 b o (fun z=>hb (by rw [z];simp)) e
 .rintro i s Q E ⟨st1,st2,st3⟩ hQ
  exact sy st1 hQ
 .rcases List.mem_cons.mp hb with e | hb
  .rw [e];exact ⟨Heap.lt_size hI,.inr ht⟩
  .rcases List.mem_cons.mp hb with e | hb
   .rw [e]
    obtain ⟨o,ho,_⟩:=x.obj
    exact ⟨Heap.lt_size ho,.inl rfl⟩
   .rw [List.mem_singleton.mp hb]
    exact ⟨Heap.lt_size hT,.inr htT⟩
theorem zJ(x:cT w s.heap S l ep t)
  (h: ∀(I:Addr)(h':Heap)(d:Drawn),(∀b o,s.heap.get? b=some o->h'.get? b=some o)->s.heap.objs.size<=I->q_ prog w I S l h' s.heap.objs.size->Q (.ref I) { s with heap:=h',drawn:=d }):
  wpAny (model prog w) A (pyIter (.ref S)) Q E s:=by
 have U:S<s.heap.objs.size:=by obtain⟨o,ho,_⟩:=x.obj;exact Heap.lt_size ho
 refine wpAny_pyIter_slot x.ty F.slot_set_iter (wpAny_call_entry F.slot_set_iter x.ty uf ?_ (F.args_set_iter_1 _));refine wpAny_bind (m:=Builtin.Frozenset.slot0 "__iter__" ⟨[.ref S],[]⟩) (wpAny_pure ?_);refine wpAny_bind ?_;refine wpAny_bind (wpAny_bind (x.state (wpAny_pure (wpAny_pure ?_))));refine wpAny_bind (y_ x ?_);by_cases hb:(!w.params.followText "set-order"&&(!t.plain&&decide (l.length>1)))=true
 .rw[if_pos hb];refine wpAny_bind (wJ l.length (List.range l.length) s (by simp) λ ys d py=>?_);have aa:ys.length=l.length:=by rw[py.length_eq,List.length_range]
  refine wpAny_bind (wpAny_newTuple ?_ (by rw[List.length_map,aa];exact fits_of_scanBound x.few));have C:cT w (s.heap.push { cls:= .type "tuple",data:= .seq (ys.map λ(i:Nat)=>rawInt i).toArray }) S l ep t:=x.at λ o e=>Heap.get?_push_of_some _ e;refine wpAny_bind ?_;refine wpAny_bind (cT.state (s:={ s with drawn:=d,heap:=s.heap.push { cls:= .type "tuple",data:= .seq (ys.map λ(i:Nat)=>rawInt i).toArray } }) C (wpAny_pure ?_));refine wpAny_bind (wpAny_newObj_type (wpAny_pure ⟨_,rfl,"set_iterator",_,⟨_,Heap.get?_push_size _ rfl,rfl⟩,fZ.lookup,?_⟩));refine h _ _ d (λ b o e=>Heap.get?_push_of_some _ (Heap.get?_push_of_some _ e)) (by rw[Heap.size_push];exact Nat.le_succ _) ?_;refine u4 (t:=t) py (λ z=>?_) (λ z=>?_) ?_ (Nat.le_refl _) (Heap.get?_push_size _ rfl) (C.at λ o e=>Heap.get?_push_of_some _ e) (Heap.get?_push_of_some _ (Heap.get?_push_size _ rfl));. rw[<- z]at U;have J:(s.heap.push { cls:= .type "tuple",data:= .seq (ys.map λ(i:Nat)=>rawInt i).toArray }).objs.size<s.heap.objs.size:=U;rw[Heap.size_push]at J;exact absurd J (Nat.not_lt.mpr (Nat.le_succ _))
  .have z':(s.heap.push { cls:= .type "tuple",data:= .seq (ys.map λ(i:Nat)=>rawInt i).toArray }).objs.size=s.heap.objs.size:=z;rw[Heap.size_push]at z';exact Nat.succ_ne_self _ z'
  simp
 .rw[if_neg hb];refine wpAny_bind (wpAny_pure ?_);refine wpAny_bind ?_;refine wpAny_bind (x.state (wpAny_pure ?_));refine wpAny_bind (wpAny_newObj_type (wpAny_pure ⟨_,rfl,"set_iterator",_,⟨_,Heap.get?_push_size _ rfl,rfl⟩,fZ.lookup,?_⟩));refine h _ _ s.drawn (λ b o e=>Heap.get?_push_of_some _ e) (Nat.le_refl _) ?_;have C:cT w (s.heap.push { cls:= .type "set_iterator",data:= .fields [rawInt 0,rawInt 0,.ref S,rawInt l.length,rawInt ep].toArray }) S l ep t:=x.at λ o e=>Heap.get?_push_of_some _ e;cases hw:w.params.followText "set-order" with
  |true=>exact tL hw (λ z=>Nat.lt_irrefl _ (z▸U)) (Nat.le_refl _) (Heap.get?_push_size _ rfl) C
  |false=>rw[hw]at hb;exact sh hw (by simpa using hb) (λ z=>Nat.lt_irrefl _ (z▸U)) (Nat.le_refl _) (Heap.get?_push_size _ rfl) C
end
section
variable {prog:Program} {w:World} {A:Around} {E:Value->Shared->Prop} {s:Shared} {I S:Addr} {l:List (Int × Value)} {ep:Nat} {t:SetTable}
theorem A0(x:cT w s.heap S l ep t)(h:Q false s):wpAny (model prog w) A (Builtin.List.listLengthHint (.ref S)) Q E s:=by refine wpAny_bind (wpAny_specialOf x.ty F.slot_set_len.lookup ?_);generalize Ep:("set.__len__":String)=o;wp_delta;subst Ep;refine wpAny_bind (wpAny_isInstance (T:="set") (b:=true) x.ty (by kernel_rfl) ?_);exact wpAny_bind (wpAny_typeOf x.ty (wpAny_pure h))
theorem EN{ord:List (Int×Value)}{acc:Array Value}(h:ItemsOf (λ i v=> ∃p,ord[i]?=some p/\v=p.2) acc ord.length):acc.toList=ord.map λ p=>p.2:=by
 refine List.ext_getElem? λ i=>?_;rw[List.getElem?_map];by_cases o:i<acc.size
 .have e:acc[i]?=some acc[i]:=by simp
  obtain⟨p,C,J⟩:=h.2 i _ e;simp_all
 .rw[Array.getElem?_toList,Array.getElem?_eq_none (by omega),List.getElem?_eq_none (by have:=h.1;omega)];rfl
theorem sg(hh:A.handled=none)(x:cT w s.heap S l ep t)
  (h: ∀(ord:List (Int×Value))(h':Heap)(tk:Nat)(d:Drawn),ord.Perm l->(∀b o,s.heap.get? b=some o->h'.get? b=some o)->Q (ord.map λ p=>p.2) { s with heap:=h',toks:=tk,drawn:=d }):
  wpAny (model prog w) A (collect (.ref S)) Q E s:=by
 have C:S<s.heap.objs.size:=by obtain⟨o,ho,_⟩:=x.obj;exact Heap.lt_size ho
 refine wpAny_bind (wpAny_runValue (codeAny_builtin F.entry_proto_collect ?_));refine wpAny_bind (wpAny_newObj_type (wpAny_pure ⟨plainId_quiet F.plain_list_iadd _,codeAny_builtin F.entry_list_iadd ?_⟩));rw[Around.under_plainId F.plain_list_iadd _];have g1:(s.heap.push { cls:= .type "list",data:= .seq ([]:List Value).toArray }).get? s.heap.objs.size=some { cls:= .type "list",data:= .seq ([]:List Value).toArray }:=Heap.get?_push_size _ rfl;have x1:cT w (s.heap.push { cls:= .type "list",data:= .seq ([]:List Value).toArray }) S l ep t:=x.at λ o e=>Heap.get?_push_of_some _ e;have af:Builtin.List.listSameRef (.ref s.heap.objs.size) (.ref S)=false:=by show(s.heap.objs.size==S)=false;simp;exact Nat.ne_of_gt C
 show wpAny (model prog w) A.in1 (Builtin.List.listExtendWith (.ref s.heap.objs.size) (.ref S) (.ref s.heap.objs.size)) _ _ _;refine wpAny_bind (wpAny_typeOf (cT.ty (s:={ s with heap:=s.heap.push { cls:= .type "list",data:= .seq ([]:List Value).toArray } }) x1) ?_);have h2:(Value.type "set"==Value.type "list")=false:=by decide
 have h3:(Value.type "set"==Value.type "tuple")=false:=by decide
 simp only[af,h2,h3];refine wpAny_bind (zJ (s:={ s with heap:=s.heap.push { cls:= .type "list",data:= .seq ([]:List Value).toArray } }) x1 λ I U d kp hI Y=>?_);have x2:cT w U S l ep t:=x1.at λ o e=>kp S o e;refine wpAny_bind (wpAny_holding (A0 (s:={ s with heap:=U,drawn:=d }) x2 ?_));refine wpAny_bind (wpAny_rule (wpAny_bind ?_));have g2:=kp _ _ g1;show wpAny (model prog w) A.in1 (updateSeq s.heap.objs.size (·.push .none) >>=λ _=>updateSeq s.heap.objs.size (·.pop)) _ _ { s with heap:=U,drawn:=d };refine wpAny_bind (wpAny_updateSeq (s:={ s with heap:=U,drawn:=d }) g2 rfl ?_);have g3:=Heap.get?_update_self (Obj.mapSeq (·.push Value.none)) g2 rfl;refine wpAny_updateSeq (s:={ s with heap:=U.update s.heap.objs.size (Obj.mapSeq (·.push Value.none)),drawn:=d }) g3 rfl ?_ (hz:=by seq_fits);have g4:=Heap.get?_update_self (Obj.mapSeq (·.pop)) g3 rfl;obtain⟨ord,fp,St,po,W,ag,hT,ao,ah⟩:=Y;have ab:s.heap.objs.size∉fp:= λ hm=>by
  obtain⟨_,h6⟩:=ah _ hm;rcases h6 with e|e
  .rw[e]at C;exact Nat.lt_irrefl _ C
  .have e':(s.heap.push { cls:= .type "list",data:= .seq ([]:List Value).toArray }).objs.size<=s.heap.objs.size:=e;rw[Heap.size_push]at e';exact Nat.not_succ_le_self _ e'
 have oth: ∀b o,b≠s.heap.objs.size->U.get? b=some o->((U.update s.heap.objs.size (Obj.mapSeq (·.push Value.none))).update s.heap.objs.size (Obj.mapSeq (·.pop))).get? b=some o:=fun b o hb e=>by rw[Heap.get?_update_other _ _ (Ne.symm hb),Heap.get?_update_other _ _ (Ne.symm hb)];exact e
 have hlen:ord.length=l.length:=po.length_eq;have ai:St 0 ((U.update s.heap.objs.size (Obj.mapSeq (·.push Value.none))).update s.heap.objs.size (Obj.mapSeq (·.pop))):=(W A.in1 hh).frame 0 U _ ag fun b hb o e=>oth b o (fun z=>ab (z▸hb)) e;refine wpAny_pure ⟨plainId_quiet F.plain_extend_loop _,codeAny_extend_loopS (W A.in1 hh).toS (fits_of_scanBound x.few) _ ab _ l.length 0 { s with heap:=(U.update s.heap.objs.size (Obj.mapSeq (·.push Value.none))).update s.heap.objs.size (Obj.mapSeq (·.pop)),drawn:=d } #[] _ rfl (Nat.zero_le _) ai g4 (ItemsOf.nil _) fun s' ak c' hm aj aa=>?_⟩;show wpAny (model prog w) A (load s.heap.objs.size >>= _) _ _ s';refine wpAny_bind (wpAny_load aj (wpAny_pure ?_));rw[<-hlen]at aa;rw[EN aa,Moved.eq_with hm];refine h ord s'.heap s'.toks d po fun b o e=>?_;have hb:=Heap.lt_size e;refine hm.heap b o (fun J=>?_) (oth b o (Nat.ne_of_lt hb) (kp b o (Heap.get?_push_of_some _ e)));rcases List.mem_cons.mp J with e'|J
 .rw[e']at hb;exact Nat.lt_irrefl _ hb
 .have e':=List.mem_singleton.mp J;have ae:(s.heap.push { cls:= .type "list",data:= .seq ([]:List Value).toArray }).objs.size≤I:=hI;rw[Heap.size_push]at ae;exact absurd hb (Nat.not_lt.mpr (Nat.le_of_succ_le (e'▸ae)))
end
section
variable {prog:Program} {w:World} {A:Around} {E:Value->Shared->Prop} {s:Shared}
noncomputable abbrev fu(prog:Program)(w:World)(h:Heap)(ks:List Int)(a:Addr):Prop:=IsTupleKey (intKind prog w) h ks a
noncomputable abbrev th(prog:Program)(w:World)(ks:List Int):Int:=tupleKeyHash (intKind prog w) ks
theorem lA(J:fu prog w s.heap ks a)(h:Q false s):wpAny (model prog w) A (ofAClassStatement 8 (.ref a)) Q E s:=by
 have hT:=J.typeIs;obtain⟨o,items,n,ho,_,hd,hi⟩:=J;unfold ofAClassStatement;refine wpAny_bind (wpAny_typeOf hT ?_);refine wpAny_bind (wpAny_pure ?_);refine wpAny_bind (wpAny_seqItems ho hd ?_);refine wpAny_bind ?_;rw[<- Array.forIn_toList];refine wpAny_forIn_list _ (λ rest r s'=>r.1=none/\s'=s/\ ∀v∈rest,carriedByValue v=true) _ ?_ ?_ _ _ ⟨rfl,rfl,hi.byValue⟩
 .rintro v rest r s' ⟨U,rfl,C⟩;have hv:=C v List.mem_cons_self;have e:ofAClassStatement 7 v=pure false:=by cases v <;> first|rfl|(cases hv)
  rw[e];exact wpAny_pure ⟨rfl,rfl,λ u I=>C u (List.mem_cons_of_mem _ I)⟩
 .rintro⟨r1,r2⟩ s' ⟨U,rfl,_⟩;subst U;exact wpAny_pure h
theorem DK(J:fu prog w s.heap ks a)(hy: ∀y∈ys,∃k b,y= .ref b/\fu prog w s.heap k b)(h:Q false s):wpAny (model prog w) A (searchCouldBeSeen (.ref a) ys) Q E s:=by
 refine wpAny_bind ?_;refine wpAny_forIn_list _ (λ rest r s'=>r.1=none/\s'=s/\ ∀y∈rest,∃k b,y= .ref b/\fu prog w s.heap k b) _ ?_ ?_ _ _ ⟨rfl,rfl,hy⟩
 .rintro v rest r s' ⟨U,rfl,o⟩;obtain⟨k,b,rfl,hb⟩:=o v List.mem_cons_self;have tl: ∀y∈rest,∃k b,y= .ref b/\fu prog w s'.heap k b:= λ u I=>o u (List.mem_cons_of_mem _ I);dsimp only;by_cases C:(a==b)=true
  .rw[if_pos (by rw[C];rfl)];exact wpAny_pure ⟨rfl,rfl,tl⟩
  .rw[if_neg (by rw[Bool.eq_false_iff.mpr C];simp[carriedByValue])];refine wpAny_bind (wpAny_eqIsQuiet_tuple J ?_);refine wpAny_bind (wpAny_eqIsQuiet_tuple hb ?_);refine wpAny_bind (lA J ?_);refine wpAny_bind (lA hb ?_);exact wpAny_pure ⟨rfl,rfl,tl⟩
 .rintro⟨r1,r2⟩ s' ⟨U,rfl,_⟩;subst U;exact wpAny_pure h
end
noncomputable def ek(prog:Program)(w:World)(p:List Int×Addr):Int×Value:=(th prog w p.1,.ref p.2)
structure TS (prog:Program) (w:World) (h:Heap) (S:Addr) (l:List (List Int × Addr)) (ep:Nat) (t:SetTable):Prop where
 x:cT w h S (l.map (ek prog w)) ep t
 keys:∀ p ∈ l,fu prog w h p.1 p.2
 t7:T7 t
 way:∀ (i:Nat) (p:List Int × Addr),l[i]? = some p->∃ m,t.place[i]? = some (d_ (SetTable.bits (th prog w p.1)) m).1∧∀ m',m' < m->(d_ (SetTable.bits (th prog w p.1)) m').1 ∈ t.place.toList
section
variable {prog:Program} {w:World} {A:Around} {E:Value->Shared->Prop} {s:Shared} {S:Addr} {l:List (List Int × Addr)} {ep:Nat} {t:SetTable}
theorem TS.size(T:TS prog w s.heap S l ep t):t.place.size=l.length:=by have:=T.x.fits;simp[SetTable.fits]at this;omega
theorem TS.search(T:TS prog w s.heap S l ep t){k:List Int}{a:Addr}{Q:SetFound->Shared->Prop}(hu:A.units<cLine)(hk:fu prog w s.heap k a){M:Nat}(hM:M<=20)
  (ae:(d_ (SetTable.bits (th prog w k)) M).1∉t.place.toList)(C: ∀m,m<M->(d_ (SetTable.bits (th prog w k)) m).1∈t.place.toList)(h1:k∈l.map (·.1)->Q (.there none) s)(h2:k∉l.map (·.1)->Q (.free (d_ (SetTable.bits (th prog w k)) M).1 false) s):
  ∀(d m fuel:Nat)(st:Option SetTable.Probe),m+d=M->d<fuel->st.getD (t.probeStart (th prog w k))=vg (SetTable.bits (th prog w k)) m->
   (k∈l.map (·.1)-> ∃(m1 i:Nat) (p:List Int×Addr),m<=m1/\m1<M/\l[i]?=some p/\p.1=k/\t.place[i]?=some (d_ (SetTable.bits (th prog w k)) m1).1)->wpAny (model prog w) A (setSearchFrom S (.ref a) (th prog w k) true fuel st) Q E s:=by have hsz:=T.size;obtain⟨o,ho,_,hd⟩:=T.x.obj;intro d;induction d using Nat.strongRecOn with
 |ind d ih=>intro m fuel st hm hf ah hin;cases fuel with
  |zero=>omega
  |succ fuel=>
  have aa:t.fits (l.map (ek prog w)).toArray.size=true:=by have:=T.x.fits;simpa using this
  unfold setSearchFrom;refine wpAny_bind (wpAny_setState_of ho hd aa ?_);dsimp only;rw[if_neg (by unfold SetTable.gaveWay;rw[T.t7.mask];decide),ah];obtain⟨kk,ar,af,ai⟩:=pN t (λ i=>((l.map (ek prog w)).toArray[i]?.map (·.1)).getD 0) (th prog w k) (SetTable.bits (th prog w k)) M d m hm;have live: ∀m',m'<M-> ∃p,l[SetTable.below t.place (d_ (SetTable.bits (th prog w k)) m').1]?=some p/\t.place[SetTable.below t.place (d_ (SetTable.bits (th prog w k)) m').1]?=some (d_ (SetTable.bits (th prog w k)) m').1:= λ m' aj=>by
   have e:=kQ T.t7.up (C m' aj);have I:SetTable.below t.place (d_ (SetTable.bits (th prog w k)) m').1<l.length:=by rw[<- hsz];exact(Array.getElem?_eq_some_iff.mp e).1
   exact⟨_,List.getElem?_eq_getElem I,e⟩
  have pb:=fun(f:Nat->Int) (hf: ∀i,f i=((l.map (ek prog w)).toArray[i]?.map (·.1)).getD 0)=>T.t7.probe (f:=f) (h:=th prog w k) (b:=SetTable.bits (th prog w k)) (k:=kk) (m:=m) (by omega) fun m' a1 a2=>⟨C m' (by omega),by rw[hf];exact af m' a1 a2⟩;by_cases J:m+kk=M;·
   have e0:=fun f hf=>(pb f hf).1 (by rw[J];exact ae);rw[e0];case hf=>intro i;rfl
   rw[J];refine wpAny_pure ?_;refine h2 fun U=>?_;obtain⟨m1,i,p,a1,a2,a3,a4,a5⟩:=hin U;refine af m1 a1 (by omega) ?_;have hb:=T.t7.at a5;rw[hb];simp[a3,ek,a4]
  .have I:m+kk<M:=by omega
   have hh:=ai.resolve_left J;have e0:=fun f (hf: ∀i,f i=((l.map (ek prog w)).toArray[i]?.map (·.1)).getD 0)=>(pb f hf).2 (C _ I) (by rw[hf];exact hh);rw[e0];case hf=>intro i;rfl
   dsimp only;obtain⟨p,hp,au⟩:=live _ I;have ak:=T.keys p (List.mem_of_getElem? hp)
   have rest:wpAny (model prog w) A (do
     let some (_,y):=(l.map (ek prog w)).toArray[SetTable.below t.place (d_ (SetTable.bits (th prog w k)) (m+kk)).1]?|unsupported "internal:set-entry"
     let equal<-holding [y] (eqBool y (.ref a))
     let(ao,_,t')<-setState S
     if true&&equal then return .there none
     let some same:=t'.sameMemory t.moves t.mask|unsupported "set.changed-during-lookup:is-the-new-block-at-the-old-address"
     let ag<-match(if same then t'.slot (d_ (SetTable.bits (th prog w k)) (m+kk)).1 else .empty)with
      | .live i'=>match ao[i']? with
       |some (_,y')=>do pure (if<-isSame y' y then some i' else none)
       |none=>pure none
      |_=>pure none
     match ag with
     |none=>rule "set.search.anew";setSearchFrom S (.ref a) (th prog w k) true fuel none
     |some i'=>if equal then return .there (some i')else setSearchFrom S (.ref a) (th prog w k) true fuel (some (vg (SetTable.bits (th prog w k)) (m+kk+1)))) Q E s:=by
    have he:(l.map (ek prog w)).toArray[SetTable.below t.place (d_ (SetTable.bits (th prog w k)) (m+kk)).1]?=some (th prog w p.1,.ref p.2):=by simp[hp,ek]
    rw[he];dsimp only;refine wpAny_bind (wpAny_holding (wpAny_eqBool_tuple hu ak hk ?_));refine wpAny_bind (wpAny_setState_of ho hd aa ?_);dsimp only;by_cases hq:p.1=k;· rw[decide_eq_true hq];simp only[Bool.and_self,if_true];exact wpAny_pure (h1 (hq▸List.mem_map.mpr ⟨p,List.mem_of_getElem? hp,rfl⟩))
    .rw[decide_eq_false hq];simp only[Bool.and_false,Bool.false_eq_true,if_false];have sm:t.sameMemory t.moves t.mask=some true:=by unfold SetTable.sameMemory;simp
     rw[sm];dsimp only;rw[if_pos rfl,T.t7.live (C _ I)];dsimp only;rw[he];dsimp only;refine wpAny_bind (wpAny_isSame_ref_self (wpAny_bind (wpAny_pure ?_)));simp only[if_true];refine ih (d-(kk+1)) (by omega) (m+kk+1) fuel _ (by omega) (by omega) rfl fun U=>?_;obtain⟨m1,i,p',a1,a2,a3,a4,a5⟩:=hin U;refine⟨m1,i,p',?_,a2,a3,a4,a5⟩;rcases Nat.lt_or_ge m1 (m+kk)with z|z
     .exfalso;refine af m1 a1 z ?_;rw[T.t7.at a5];simp[a3,ek,a4]
     .by_cases z2:m1=m+kk;· exfalso;subst z2;have:=T.t7.at a5;rw[this,a3]at hp;cases hp;exact hq a4
      .omega
   by_cases ab:t.led=true;· rw[ab];simp only[Bool.not_true,Bool.false_eq_true,if_false];exact rest
   .rw[Bool.eq_false_iff.mpr ab];simp only[Bool.not_false,if_true];refine wpAny_bind (DK hk (fun y hy=>?_) ?_);· obtain⟨e,he,rfl⟩:=List.mem_map.mp hy;rw[Array.toList_filter,List.mem_filter]at he;have aq:e∈l.map (ek prog w):=he.1;obtain⟨q,hq,rfl⟩:=List.mem_map.mp aq;exact⟨q.1,q.2,rfl,T.keys q hq⟩
    .simp only[Bool.false_eq_true,if_false];exact rest
end
noncomputable def lp(n:Nat)(s:Nat×Nat):Nat×Nat:=match n with
 |0=>s
 |n+1=>lp n (SetTable.leap 31 s.1 s.2)
theorem l0: ∀(n:Nat)(s:Nat×Nat),lp (n+1) s=SetTable.leap 31 (lp n s).1 (lp n s).2
 |0,s=>rfl
 |n+1,s=>l0 n (SetTable.leap 31 s.1 s.2)
theorem ME(s:Nat×Nat): ∀n,(lp n s).2=s.2/32^n
 |0=>by simp[lp]
 |n+1=>by rw[l0];show(lp n s).2/32=_;rw[ME s n,Nat.div_div_eq_div_mul,Nat.pow_succ]
theorem NU(s:Nat×Nat)(h:s.1<32): ∀n,(lp n s).1<32
 |0=>h
 |n+1=>by rw[l0];exact Nat.mod_lt _ (by omega)
noncomputable def Qv(i:Nat):Nat:=(i*5+1)%32
noncomputable def Ll:Nat->Nat->Nat
 |0,i=>i
 |k+1,i=>Qv (Ll k i)
theorem Mf(s:Nat×Nat)(o:s.2<2^64): ∀k,(lp (13+k) s).1=Ll k (lp 13 s).1
 |0=>rfl
 |k+1=>by
  rw[show 13+(k+1)=(13+k)+1 by omega,l0,Mf s o k,ME];have C:s.2/32^(13+k)=0:=by apply Nat.div_eq_of_lt;grind
  rw[C];rfl
theorem FA: ∀i,i<32-> ∀j,j<32-> ∃k,k<32/\Ll k i=j:=by decide+kernel
theorem KC(s:Nat×Nat)(h:s.1<32)(o:s.2<2^64){j:Nat}(C:j<32): ∃m,m<46/\(lp m s).1=j:=by obtain⟨k,I,e⟩:=FA _ (NU s h 13) j C;exact⟨13+k,by omega,by rw[Mf s o,e]⟩
theorem qh(owner:Array (Option Nat)): ∀(fuel:Nat)(s:Nat×Nat),(∃n,n<fuel/\(owner.getD (lp n s).1 (some 0)).isNone=true)-> ∃j,SetTable.layClean.free 31 owner fuel s.1 s.2=some j
 |0,s,⟨n,h,_⟩=>absurd h (Nat.not_lt_zero _)
 |fuel+1,s,⟨n,I,h⟩=>by
  unfold SetTable.layClean.free;split;. exact⟨_,rfl⟩
  .rename_i o;cases n with
   |zero=>
    exfalso;rw[List.find?_eq_none]at o;have C:1<=SetTable.runEnd 31 s.1+1-s.1:=by unfold SetTable.runEnd;grind
    have:=o 0 (List.mem_range.mpr C);exact this (by simpa[lp]using h)
   |succ n=>exact qh owner fuel (SetTable.leap 31 s.1 s.2) ⟨n,by omega,h⟩
theorem xc(owner:Array (Option Nat)): ∀(fuel i p j:Nat),SetTable.layClean.free 31 owner fuel i p=some j->(owner.getD j (some 0)).isNone=true
 |0,i,p,j,h=>by cases h
 |fuel+1,i,p,j,h=>by
  unfold SetTable.layClean.free at h;split at h;. grind
  .exact xc owner fuel _ _ j h
theorem xw{β:Type}{g g':Nat->Option β}: ∀{L:List Nat},(∀i∈L,g' i=g i)->L.filterMap g'=L.filterMap g
 |[],_=>rfl
 |x::r,h=>by have C:=xw (L:=r) λ i o=>h i (List.mem_cons_of_mem _ o);grind
theorem yy{β:Type}{g g':Nat->Option β}{j:Nat}{v:β}(J:g j=none)(o:g' j=some v)(C: ∀i,i≠j->g' i=g i): ∀{L:List Nat},L.Nodup->j∈L->(L.filterMap g').Perm (v::L.filterMap g)
 |[],_,h=>nomatch h
 |x::r,nd,h=>by
  have n:=List.nodup_cons.mp nd;by_cases e:x=j;. subst e;have same:r.filterMap g'=r.filterMap g:=xw λ i U=>C i λ z=>n.1 (z▸U);simp_all
  .have I:=yy J o C n.2 ((List.mem_cons.mp h).resolve_left λ z=>e z.symm);have hx:=C x e;cases q:g x with
   |none=>rw[List.filterMap_cons_none (hx.trans q),List.filterMap_cons_none q];exact I
   |some y=>rw[List.filterMap_cons_some (hx.trans q),List.filterMap_cons_some q];exact(I.cons y).trans (List.Perm.swap _ _ _)
noncomputable def lv(owner:Array (Option Nat)):List (Nat×Nat):=(List.range 32).filterMap λ j=>(owner.getD j none).map (j,.)
structure Ow (owner:Array (Option Nat)) (k:Nat):Prop where
 size:owner.size=32
 perm:((lv owner).map (·.2)).Perm (List.range k)
theorem Ow.room(h:Ow owner k)(hk:k<32): ∃j,j<32/\(owner.getD j (some 0)).isNone=true:=by
 apply Classical.byContradiction;intro z;have all: ∀j,j<32-> ∃v,owner.getD j none=some v:= λ j o=>by cases q:owner.getD j none with
  |some v=>exact⟨v,rfl⟩
  |none=>
   exfalso;refine z ⟨j,o,?_⟩;have C:j<owner.size:=by rw[h.size];exact o
   simp only[C,dif_pos]at q|-;rw[q];rfl
 have hl:(lv owner).length=32:=by
  unfold lv;have gen: ∀L:List Nat,(∀j∈L,j<32)->(L.filterMap λ j=>(owner.getD j none).map (j,.)).length=L.length:=by intro L;induction L with
   |nil=>intro _;rfl
   |cons x r J=>
    intro I;obtain⟨v,e⟩:=all x (I x List.mem_cons_self);have U:(λ j=>(owner.getD j none).map λ y=>(j,y)) x=some (x,v):=by show(owner.getD x none).map (λ y=>(x,y))=_;rw[e];rfl
    rw[List.filterMap_cons_some (f:= λ j=>(owner.getD j none).map λ y=>(j,y)) U,List.length_cons,List.length_cons,J λ j o=>I j (List.mem_cons_of_mem _ o)]
  grind
 have:=h.perm.length_eq;grind
theorem DZ: ∀(hs:List Int)(owner:Array (Option Nat))(k:Nat),Ow owner k->k+hs.length<32-> ∃o,hs.foldl (λ acc h=>do
  let(owner,k)<- acc
  let j<- SetTable.layClean.free 31 owner (SetTable.turns 31) (SetTable.bits h%(31+1)) (SetTable.bits h)
  pure (owner.setIfInBounds j (some k),k+1)) (some (owner,k))=some (o,k+hs.length)/\Ow o (k+hs.length)
 |[],owner,k,h,_=>⟨owner,rfl,h⟩
 |a::hs,owner,k,h,hk=>by
  rw[List.length_cons]at hk;obtain⟨j0,J,hf⟩:=h.room (by omega);obtain⟨m,hm,em⟩:=KC (SetTable.bits a%32,SetTable.bits a) (Nat.mod_lt _ (by omega)) (xf a) J;obtain⟨j,ej⟩:=qh owner (SetTable.turns 31) (SetTable.bits a%32,SetTable.bits a) ⟨m,hm,by rw[em];exact hf⟩;have U:=xc owner _ _ _ _ ej;have C:j<owner.size:=by apply Classical.byContradiction;intro z;simp[z]at U
  have hn:owner.getD j none=none:=by simp only[Array.getD,C]at U|-;cases q:owner[j]with
   |none=>exact q
   |some v=>have I:(owner[j]).isNone=true:=U;rw[q]at I;cases I
  have h':Ow (owner.setIfInBounds j (some k)) (k+1):=by
   refine⟨by simp[h.size],?_⟩;have p:=yy (g:= λ i=>(owner.getD i none).map (i,.)) (g':= λ i=>((owner.setIfInBounds j (some k)).getD i none).map (i,.)) (j:=j) (v:=(j,k)) (by rw[hn];rfl) (by
    have:(owner.setIfInBounds j (some k)).getD j none=some k:=by simp[C]
    rw[this];rfl) (λ i hi=>by
    have:(owner.setIfInBounds j (some k)).getD i none=owner.getD i none:=by
     simp;rw[Array.getElem?_setIfInBounds_ne (Ne.symm hi)]
    grind) (L:=List.range 32) List.nodup_range (List.mem_range.mpr (by rw[<- h.size];exact C));have p2:=p.map (·.2);refine p2.trans ?_;rw[show List.range (k+1)=List.range k++[k]from List.range_succ];exact((h.perm).cons k).trans (List.perm_append_singleton _ _).symm
  obtain⟨ow,e1,e2⟩:=DZ hs _ (k+1) h' (by omega);grind
theorem GX(hs:Array Int)(J:hs.size<32): ∃t o,SetTable.laid 31 fg mv ld pl hs=some (t,o)/\o.toList.Perm (List.range hs.size)/\t.fits hs.size=true/\t.plain=pl:=by
 have h0:Ow (Array.replicate 32 none) 0:=⟨by simp,List.Perm.refl _⟩;obtain⟨C,U,I⟩:=DZ hs.toList _ 0 h0 (by simpa using J);rw[Nat.zero_add]at I;refine⟨⟨31,((lv C).map (·.1)).toArray,#[],fg,ld,mv,pl⟩,((lv C).map (·.2)).toArray,?_,by simpa using I.perm,?_,rfl⟩;. unfold SetTable.laid SetTable.layClean;rw[<- Array.foldl_toList,U];rfl
 .have hl:(lv C).length=hs.size:=by have:=I.perm.length_eq;rwa [List.length_map,List.length_range]at this
  unfold SetTable.fits SetTable.fill;grind
section
variable {prog:Program} {w:World} {A:Around} {E:Value->Shared->Prop} {s:Shared} {S:Addr} {l:List (List Int × Addr)} {ep:Nat} {t:SetTable}
theorem fu.keeps (x:fu prog w h ks a) (k:∀ o,h.get? a=some o->h'.get? a=some o):fu prog w h' ks a:= by
 obtain ⟨o,items,n,ho,r⟩:=x
 exact ⟨o,items,n,k o ho,r⟩
theorem fu.notSet (x:fu prog w h ks a) (ho:h.get? S=some o) (hd:o.data=.set es ep t):a ≠ S:=fun z=>by
 obtain ⟨o2,items,n,ho2,_,hd2,_⟩:=x
 grind
theorem pe(hk:fu prog w s.heap ks a)(h:Q true s):wpAny (model prog w) A (hashByValue 8 (.ref a)) Q E s:=by
 have hT:=hk.typeIs;obtain⟨o,items,n,ho,_,hd,hi⟩:=hk;refine wpAny_bind (wpAny_specialOf hT F.slot_tuple_hash.lookup ?_);refine wpAny_bind (wpAny_seqItems ho hd ?_);refine wpAny_bind ?_;rw[<- Array.forIn_toList];have J: ∀v∈items.toList,∃i u,v=Value.int i u:=by generalize items.toList=vs at hi;induction hi with
  |nil=>intro v I;cases I
  |@cons k v' ks vs h1 _ ih=>
   intro v I;rcases List.mem_cons.mp I with rfl|I
   .obtain⟨u,e⟩:=Value.isInt_shape (show Value.isInt k v=true from h1);exact⟨k,u,e⟩
   .exact ih v I
 refine wpAny_forIn_list _ (λ rest r s'=>r.1=none/\s'=s/\ ∀v∈rest,∃i u,v=Value.int i u) _ ?_ ?_ _ _ ⟨rfl,rfl,J⟩;. rintro v rest r s' ⟨hr,rfl,C⟩;obtain⟨i,u,rfl⟩:=C v List.mem_cons_self;exact wpAny_pure ⟨rfl,rfl,λ u U=>C u (List.mem_cons_of_mem _ U)⟩
 .rintro⟨r1,r2⟩ s' ⟨hr,rfl,_⟩;subst hr;exact wpAny_pure h
theorem vt(f:α->β)(xs:Array α)(p:Nat)(x:α):SetTable.insertAt (xs.map f) p (f x)=(SetTable.insertAt xs p x).map f:=by unfold SetTable.insertAt;simp
theorem cT.store{l C:List (Int×Value)}{t':SetTable}{es:Array (Int×Value)}(x:cT w h S l ep t)(he:es=C.toArray)(I:C.length<scanBound)(hf:t'.fits C.length=true)(J:t'.led=t.led)(U:Tb t'):
  cT w (h.update S (Obj.putSet es t')) S C (ep+1) t':=by obtain⟨o,ho,hx,hd⟩:=x.obj;subst he;refine⟨⟨{ o with data:= .set C.toArray (ep+1) t' },?_,hx,rfl⟩,I,hf,J.trans x.led,U⟩;have:=Heap.get?_update_self (Obj.putSet C.toArray t') ho (by rw[putSet_of C.toArray t' hd];rfl);rwa [putSet_of C.toArray t' hd]at this
theorem yx{α:Type}: ∀l:List α,(List.range l.length).filterMap (λ i=>l[i]?)=l
 |[]=>rfl
 |x::r=>by rw[List.length_cons,List.range_succ_eq_map,List.filterMap_cons_some (f:= λ i=>(x::r)[i]?) (show(x::r)[0]?=some x from rfl),List.filterMap_map];congr 1;exact yx r
theorem TS.add (T:TS prog w s.heap S l ep t) (hu:A.units < cLine) (h4:l.length ≤ 4) (hk:fu prog w s.heap k a) (h:∀ h' l' ep' t' b,Heap.SameBut S s.heap h' -> cT w h' S (l'.map (ek prog w)) ep' t' -> (l'.length ≤ 4->TS prog w h' S l' ep' t')->(if k ∈ l.map (·.1) then l' = l else l'.Perm ((k,a) :: l))->Q b { s with heap:=h' }) :
  wpAny (model prog w) A (setAddHashed S (.ref a) (th prog w k)) Q E s:= by
 obtain ⟨o,ho,hx,hd⟩:=T.x.obj
 have hsz:=T.size
 have hfit:t.fits (l.map (ek prog w)).toArray.size=true:=by have:=T.x.fits;simpa using this
 obtain ⟨M,hM,hfree,hway⟩:=Er (th prog w k) (l:=t.place.toList) (by rw [Array.length_toList,hsz];omega)
 unfold setAddHashed setAddHashedIn
 refine wpAny_holding ?_
 refine wpAny_bind (wpAny_setState_of ho hd hfit ?_)
 dsimp only
 have nb:byScan (.ref a) (l.map (ek prog w)).toArray=false:=rfl
 rw [nb]
 simp only [Bool.false_eq_true,if_false]
 refine wpAny_bind ?_
 unfold setSearch
 refine T.search hu hk hM hfree hway (fun hm=>?_) (fun hm=>?_) M 0 100000 none (by omega) (by omega) ?_ (fun hm=>?_)
 .exact wpAny_pure (h s.heap l ep t false (Heap.SameBut.refl S s.heap) T.x (fun _=>T) (by rw [if_pos hm]))
 .dsimp only
  refine wpAny_bind (wpAny_setState_of ho hd hfit ?_)
  dsimp only
  generalize hj:(d_ (SetTable.bits (th prog w k)) M).1=j at hfree
  have hp:SetTable.below t.place j ≤ t.place.size:=(i8 T.t7.up j).1
  obtain ⟨t1,ht1⟩:∃ t1:SetTable,t1={ t with place:=SetTable.insertAt t.place (SetTable.below t.place j) j,dummies:=if SetTable.has t.dummies j then SetTable.eraseAt t.dummies (SetTable.below t.dummies j) else t.dummies }:=⟨_,rfl⟩
  have eput:t.put j=(t1,SetTable.below t.place j):=by rw [ht1];rfl
  rw [eput]
  dsimp only
  have Ov:t1.dummies = #[]:= by
   rw [ht1]
   have:SetTable.has t.dummies j=false:=by rw [T.t7.dum];rfl
   show (if SetTable.has t.dummies j=true then _ else _)=_
   rw [this,T.t7.dum];rfl
  have hpl1:t1.place=SetTable.insertAt t.place (SetTable.below t.place j) j:=by rw [ht1]
  have hm1:t1.mask=7:=by rw [ht1];exact T.t7.mask
  have hled1:t1.led=t.led:=by rw [ht1]
  have hplain1:t1.plain=t.plain:=by rw [ht1]
  have hperm1:=lq t.place (SetTable.below t.place j) j hp
  rw [<- hpl1] at hperm1
  have hs1:t1.place.size=l.length + 1:= by
   have:=hperm1.length_eq
   rw [Array.length_toList,List.length_cons,Array.length_toList,hsz] at this
   exact this
  have hup1:Up t1.place:=by rw [hpl1];exact zK T.t7.up hfree
  have byv:∀ {K:Bool->Sem Bool} {Q':Bool->Shared->Prop},wpAny (model prog w) A (K true) Q' E s->wpAny (model prog w) A (if t1.plain=true then hashByValue 8 (.ref a) >>= K else pure true >>= K) Q' E s:=fun q=>by
   split
   .exact wpAny_bind (pe hk q)
   .exact wpAny_bind (wpAny_pure q)
  refine byv ?_
  simp only [if_true]
  obtain ⟨l1,hl1⟩:∃ l1,l1=(SetTable.insertAt l.toArray (SetTable.below t.place j) (k,a)).toList:=⟨_,rfl⟩
  have hp2:SetTable.below t.place j ≤ l.toArray.size:=by simpa [hsz] using hp
  have hes:SetTable.insertAt (l.map (ek prog w)).toArray (SetTable.below t.place j) (th prog w k,.ref a)=(l1.map (ek prog w)).toArray:= by
   have e:=vt (ek prog w) l.toArray (SetTable.below t.place j) (k,a)
   rw [hl1]
   have e2:l.toArray.map (ek prog w)=(l.map (ek prog w)).toArray:=by simp
   rw [e2] at e
   rw [show (th prog w k,Value.ref a)=ek prog w (k,a) from rfl,e]
   apply Array.toList_inj.mp
   simp
  have hpm1:l1.Perm ((k,a) :: l):=by rw [hl1];simpa using lq l.toArray (SetTable.below t.place j) (k,a) hp2
  have hn1:l1.length=l.length + 1:=by rw [hpm1.length_eq];rfl
  have hfit1:t1.fits (l1.map (ek prog w)).length=true:= by
   unfold SetTable.fits SetTable.fill
   rw [hs1,Ov,hm1,List.length_map,hn1]
   simp
   omega
  have x1:cT w (s.heap.update S (Obj.putSet (SetTable.insertAt (l.map (ek prog w)).toArray (SetTable.below t.place j) (th prog w k,.ref a)) t1)) S (l1.map (ek prog w)) (ep + 1) t1 :=
   T.x.store hes (by rw [List.length_map,hn1];have:scanBound=4096:=rfl;omega) hfit1 hled1 (fun _=>hup1)
  have sb1:=Heap.SameBut.update s.heap S (Obj.putSet (SetTable.insertAt (l.map (ek prog w)).toArray (SetTable.below t.place j) (th prog w k,.ref a)) t1)
  refine wpAny_bind (wpAny_storeSet_of ho hd ?_ (by have h5:5 ≤ sizeLine:=(by rw [sizeLine_eq];decide);rw [hes];simp [hn1];omega))
  generalize s.heap.update S (Obj.putSet (SetTable.insertAt (l.map (ek prog w)).toArray (SetTable.below t.place j) (th prog w k,.ref a)) t1)=h1 at x1 sb1 ⊢
  have fin:∀ h' l' ep' t',Heap.SameBut S s.heap h' -> cT w h' S (l'.map (ek prog w)) ep' t' -> (l'.length ≤ 4->TS prog w h' S l' ep' t')->l'.Perm ((k,a) :: l)->Q true { s with heap:=h' }:=fun h' l' ep' t' c1 c2 c3 c4=>h h' l' ep' t' true c1 c2 c3 (by rw [if_neg hm];exact c4)
  have get1:∀ i:Nat,l1[i]? = if i < SetTable.below t.place j then l[i]? else if i=SetTable.below t.place j then some (k,a) else l[i - 1]?:=fun i=>by
   have:=mz l.toArray (k,a) hp2 i
   rw [hl1,Array.getElem?_toList,this]
   simp
  have T1:TS prog w h1 S l1 (ep + 1) t1:= by
   refine ⟨x1,fun p hp3=>?_,⟨hm1,Ov,hup1,fun q hq=>?_⟩,fun i p hp3=>?_⟩
   .have:fu prog w s.heap p.1 p.2:= by
     rcases List.mem_cons.mp (hpm1.mem_iff.mp hp3) with e | e
     .rw [e];exact hk
     .exact T.keys p e
    exact this.keeps fun o' e=>(sb1.2 p.2 (this.notSet ho hd)).trans e
   .rcases List.mem_cons.mp (hperm1.mem_iff.mp hq) with e | e
    .rw [e,<- hj];exact Cf _ _
    .exact T.t7.lt q e
   .have up:∀ q,q ∈ t.place.toList->q ∈ t1.place.toList:=fun q hq=>hperm1.mem_iff.mpr (List.mem_cons_of_mem _ hq)
    have gp:∀ i:Nat,t1.place[i]? = if i < SetTable.below t.place j then t.place[i]? else if i=SetTable.below t.place j then some j else t.place[i - 1]?:=fun i=>by
     rw [hpl1];exact mz t.place j hp i
    rw [get1 i] at hp3
    rw [gp i]
    by_cases c1:i < SetTable.below t.place j
    .rw [if_pos c1] at hp3 ⊢
     obtain ⟨m,e1,e2⟩:=T.way i p hp3
     exact ⟨m,e1,fun m' hm'=>up _ (e2 m' hm')⟩
    .rw [if_neg c1] at hp3 ⊢
     by_cases c2:i=SetTable.below t.place j
     .rw [if_pos c2] at hp3 ⊢
      cases hp3
      exact ⟨M,by rw [hj],fun m' hm'=>up _ (hway m' hm')⟩
     .rw [if_neg c2] at hp3 ⊢
      obtain ⟨m,e1,e2⟩:=T.way (i - 1) p hp3
      exact ⟨m,e1,fun m' hm'=>up _ (e2 m' hm')⟩
  have htf:t1.tooFull=decide (5 ≤ l.length + 1):= by
   unfold SetTable.tooFull SetTable.fill
   rw [hs1,Ov,hm1]
   simp
   omega
  by_cases h5:5 ≤ l.length + 1
  .rw [htf,decide_eq_true h5]
   simp only [Bool.not_false,Bool.and_self,if_true]
   refine wpAny_bind ?_
   obtain ⟨o1,ho1,hx1,hd2⟩:=x1.obj
   have hfit2:t1.fits (l1.map (ek prog w)).toArray.size=true:=by simpa using hfit1
   have e20:SetTable.grown ((l.map (ek prog w)).toArray.size + 1)=20:= by
    have:(l.map (ek prog w)).toArray.size + 1=5:=by simp;omega
    rw [this];rfl
   rw [e20]
   unfold setRelay
   refine wpAny_bind (wpAny_setState_of (s:={ s with heap:=h1 }) ho1 hd2 hfit2 ?_)
   dsimp only
   have e32:SetTable.sizeAbove 20=32:=by decide +kernel
   rw [if_neg (by rw [e32,sizeLine_eq];decide)]
   have hzs:((l1.map (ek prog w)).toArray.map (·.1)).size=l1.length:=by simp
   obtain ⟨t2,od,el,po,ft,pl⟩:=GX (fg:=t1.finger) (mv:=t1.movedTo 31) (ld:=t1.led) (pl:=t1.plain) ((l1.map (ek prog w)).toArray.map (·.1)) (by rw [hzs];omega)
   have er:t1.relaid ((l1.map (ek prog w)).toArray.map (·.1)) 20=some (t2,od):= by
    unfold SetTable.relaid
    rw [e32]
    exact el
   rw [er]
   obtain ⟨u2,u3⟩:=EZ el
   rw [hzs] at po ft
   refine wpAny_bind ?_
   obtain ⟨l2,hl2⟩:∃ l2,l2=od.toList.filterMap fun i=>l1[i]?:=⟨_,rfl⟩
   have hpm2:l2.Perm l1:= by
    rw [hl2]
    refine (po.filterMap _).trans ?_
    rw [yx]
   have hes2:od.filterMap (fun i=>(l1.map (ek prog w)).toArray[i]?)=(l2.map (ek prog w)).toArray:= by
    apply Array.toList_inj.mp
    rw [Array.toList_filterMap,hl2,List.map_filterMap]
    congr 1
    funext i
    simp
   have hn2:l2.length=l1.length:=hpm2.length_eq
   have rd:∀ {Q':(Array (Int × Value) × SetTable)->Shared->Prop} {s':Shared},Q' ((l2.map (ek prog w)).toArray,t2) s' -> wpAny (model prog w) A (do
     let some (t,order):=some (t2,od) | unsupported "internal:set-table-without-room"
     let es':=order.filterMap ((l1.map (ek prog w)).toArray[·]?)
     if es'.size != (l1.map (ek prog w)).toArray.size then unsupported "internal:set-table-lost-an-element"
     pure (es',t)) Q' E s':=fun q=>by
    dsimp only
    rw [hes2,if_neg (by simp [hn2])]
    exact wpAny_pure q
   refine rd ?_
   dsimp only
   refine wpAny_storeSet_of (s:={ s with heap:=h1 }) ho1 hd2 (wpAny_pure ?_) (by have h5:5 ≤ sizeLine:=(by rw [sizeLine_eq];decide);simp [hn2,hn1];omega)
   have x2:cT w (h1.update S (Obj.putSet (l2.map (ek prog w)).toArray t2)) S (l2.map (ek prog w)) (ep + 1 + 1) t2:=x1.store rfl (by rw [List.length_map,hn2,hn1];have:scanBound=4096:=rfl;omega) (by rw [List.length_map,hn2];exact ft) u3 (fun _=>u2)
   exact fin _ l2 _ t2 (sb1.trans (Heap.SameBut.update _ S _)) x2 (fun z=>by omega) (hpm2.trans hpm1)
  .rw [htf,decide_eq_false h5]
   simp only [Bool.and_false,Bool.false_eq_true,if_false]
   exact wpAny_pure (fin h1 l1 _ t1 sb1 x1 (fun _=>T1) hpm1)
 .show t.probeStart _=_
  exact T.t7.start _
 .obtain ⟨p,hp,e⟩:=List.mem_map.mp hm
  obtain ⟨i,hi,ei⟩:=List.getElem_of_mem hp
  have hgi:l[i]? = some p:=by rw [List.getElem?_eq_getElem hi,ei]
  obtain ⟨m,e1,e2⟩:=T.way i p hgi
  have e:p.1=k:=e
  rw [e] at e1 e2
  refine ⟨m,i,p,Nat.zero_le _,?_,hgi,e,e1⟩
  rcases Nat.lt_trichotomy m M with z | z | z
  .exact z
  .exfalso
   rw [z] at e1
   exact hfree (by rw [Array.mem_toList_iff];exact Array.mem_of_getElem? e1)
  .exact absurd (e2 M z) hfree
end
section
variable {prog:Program} {w:World} {A:Around} {E:Value->Shared->Prop} {s:Shared} {R:Result->Shared->Prop} {I:Addr} {fp wr:List Addr} {n:Nat} {P:Nat->Value->Prop} {St:Nat->Heap->Prop}
theorem mw(e:h.get? S=some { cls:= .type "set",dict:=none,data:= .set #[] 0 (.fresh 0 0 (!w.params.followText "set-order")) }):TS prog w h S [] 0 (.fresh 0 0 (!w.params.followText "set-order")):=
 ⟨⟨⟨_,e,⟨rfl,rfl,rfl⟩,rfl⟩,(by decide:0<scanBound),by rfl,rfl,λ _=>List.Pairwise.nil⟩,λ p o=>(nomatch o),⟨rfl,rfl,List.Pairwise.nil,λ j C=>(nomatch C)⟩,λ i p o=>by grind⟩
theorem zV(W:Walks prog w A.in1 I fp wr n P St)(S:Addr)(ai:S∉fp)(val:Nat->List Int)(ad:Nat->Addr)(aj: ∀i v,P i v->v= .ref (ad i))(hb:n<=5)(hu:A.in1.units<cLine)(ag: ∀j,j<n->ad j≠S/\ad j∉wr):
  ∀(k i:Nat)(h:Heap)(tk:Nat)(l:List (List Int×Addr))(ep:Nat)(t:SetTable),n-i=k->i<=n->St i h->(∀j,j<n->fu prog w h (val j) (ad j))->cT w h S (l.map (ek prog w)) ep t->(l.length<=4->TS prog w h S l ep t)->l.length<=i->(l.map (·.1)).Nodup->(∀z,z∈l.map (·.1)↔ ∃j,j<i/\val j=z)->(∀p∈l,∃j,j<i/\ad j=p.2/\val j=p.1)->
   (∀h' aa(l':List (List Int×Addr)) ah t',(∀b o,b∉S::wr->h.get? b=some o->h'.get? b=some o)->cT w h' S (l'.map (ek prog w)) ah t'->(l'.map (·.1)).Nodup->(∀z,z∈l'.map (·.1)↔ ∃j,j<n/\val j=z)->(∀p∈l',∃j,j<n/\ad j=p.2/\val j=p.1)->R (.ok (.ret .none)) { s with heap:=h',toks:=aa })->
   codeAny (model prog w) A (.builtin "set.update.loop" ⟨[.ref S,.ref I],[]⟩) R { s with heap:=h,toks:=tk }:=by have ak:S∉wr:= λ z=>ai (W.sub _ z);intro k;induction k with
 |zero=>
  intro i h tk l ep t hk hi st key x T hl nd mem src fin;have ei:i=n:=by omega
  subst ei;refine codeAny_builtin PyProof.Rows.F.entry_set_update_loop ?_;rw[Around.under_plainId PyProof.Rows.F.plain_set_update_loop _];show wpAny (model prog w) A.in1 (pyNext (.ref I) >>= _) _ _ _;refine wpAny_bind (W.done { s with heap:=h,toks:=tk } _ _ st λ h' aa kp=>?_);exact wpAny_pure (fin h' aa l ep t (λ b o C e=>kp b o (λ z=>C (List.mem_cons_of_mem _ z)) e) (x.at λ o e=>kp S o ak e) nd mem src)
 |succ k ih=>
  intro i h tk l ep t hk hi st key x T hl nd mem src fin;have ae:i<n:=by omega
  refine codeAny_builtin PyProof.Rows.F.entry_set_update_loop ?_;rw[Around.under_plainId PyProof.Rows.F.plain_set_update_loop _];show wpAny (model prog w) A.in1 (pyNext (.ref I) >>= _) _ _ _;refine wpAny_bind (W.item i { s with heap:=h,toks:=tk } _ _ ae st λ v h1 ao hP aq kp=>?_);obtain rfl:=aj i v hP;have T0:=T (by omega);have T1:TS prog w h1 S l ep t:=⟨T0.x.at λ o e=>kp S o ak e,λ p hp=>(T0.keys p hp).keeps λ o e=>by obtain⟨j,hj,e2,_⟩:=src p hp;rw[<- e2]at e|-;exact kp _ o (ag j (by omega)).2 e,T0.t7,T0.way⟩;have ab: ∀j,j<n->fu prog w h1 (val j) (ad j):=fun j hj=>(key j hj).keeps fun o e=>kp _ o (ag j hj).2 e;refine wpAny_bind (wpAny_holding ?_);refine wpAny_holding ?_;refine wpAny_bind (wpAny_pyHash_tuple (s:={ s with heap:=h1,toks:=ao }) hu (ab i ae) ?_);refine TS.add (s:={ s with heap:=h1,toks:=ao+((val i).length+1) }) T1 hu (by omega) (ab i ae) fun U l2 ar t2 b sb x2 TT J=>?_;have af:(∀z,z∈l2.map (·.1)↔ ∃j,j<i+1∧val j=z)∧(l2.map (·.1)).Nodup∧l2.length≤i+1∧ ∀p∈l2,∃j,j<i+1∧ad j=p.2∧val j=p.1:=by
   have up: ∀p∈l,∃j,j<i+1∧ad j=p.2∧val j=p.1:=fun p hp=>by obtain⟨j,a,b⟩:=src p hp;exact⟨j,by omega,b⟩
   by_cases hm:val i∈l.map (·.1)
   .rw[if_pos hm]at J;subst J;refine⟨fun z=>(mem z).trans ⟨fun⟨j,h1,U⟩=>⟨j,by omega,U⟩,fun⟨j,h1,U⟩=>?_⟩,nd,by omega,up⟩;by_cases hj:j<i;· exact⟨j,hj,U⟩
    .have:j=i:=by omega
     subst this;exact(mem z).mp (U▸hm)
   .rw[if_neg hm]at J;have pm:(l2.map (·.1)).Perm (val i::l.map (·.1)):=by simpa using J.map (·.1)
    refine⟨fun z=>?_,?_,?_,fun p hp=>?_⟩
    .rw[pm.mem_iff,List.mem_cons,mem z];constructor
     .rintro(e|⟨j,h1,U⟩);· exact⟨i,by omega,e.symm⟩
      .exact⟨j,by omega,U⟩
     .rintro⟨j,h1,U⟩;by_cases hj:j<i;· exact .inr ⟨j,hj,U⟩
      .have:j=i:=by omega
       subst this;exact .inl U.symm
    .rw[pm.nodup_iff,List.nodup_cons];exact⟨hm,nd⟩
    .rw[J.length_eq];simp;omega
    .rcases List.mem_cons.mp (J.mem_iff.mp hp)with e|e
     .rw[e];exact⟨i,by omega,rfl,rfl⟩
     .exact up p e
  refine wpAny_pure ⟨plainId_quiet PyProof.Rows.F.plain_set_update_loop _,ih (i+1) U _ l2 ar t2 (by omega) ae (W.frame _ h1 U aq fun b C o e=>?_) (fun j hj=>(ab j hj).keeps fun o e=>?_) x2 TT af.2.2.1 af.2.1 af.1 af.2.2.2 fun h' aa l' ah t' c1 c2 c3 c4 c5=>fin h' aa l' ah t' (fun b o C e=>?_) c2 c3 c4 c5⟩;· rw[sb.2 b fun z=>ai (z▸C)];exact e
  .rw[sb.2 _ (ag j hj).1];exact e
  .refine c1 b o C ?_;rw[sb.2 b fun z=>C (z▸List.mem_cons_self)];exact kp b o (fun z=>C (List.mem_cons_of_mem _ z)) e
set_option maxHeartbeats 8000000 in
theorem zm{val:Nat->List Int}{ad:Nat->Addr}{Q:Value->Shared->Prop}(hh:A.handled=none)(hu:A.units+10<cLine)(hl:s.heap.IsTuple l items)(hi: ∀(i:Nat)(v:Value),items[i]?=some v->v= .ref (ad i))(hk: ∀i,i<items.size->fu prog w s.heap (val i) (ad i))(hb:items.size<=5)
  (h: ∀(h':Heap)(tk:Nat)(ls:List (List Int×Addr))(ep:Nat)(t:SetTable),cT w h' s.heap.objs.size (ls.map (ek prog w)) ep t->(ls.map (·.1)).Nodup->(∀z,z∈ls.map (·.1)↔ ∃j,j<items.size/\val j=z)->(∀p∈ls,∃j,j<items.size/\ad j=p.2/\val j=p.1)->
   (∀b o,s.heap.get? b=some o->h'.get? b=some o)->Q (.ref s.heap.objs.size) { s with heap:=h',toks:=tk }):
  wpAny (model prog w) A (call (.type "set") [.ref l]) Q E s:=by
 obtain⟨c,tl,aF⟩:=F.called_set.mro;have ax:=F.called_set.made;have aG:=F.called_set.sub;refine wpAny_call (codeAny_of_tree (?_:wpAny _ _ (callAny (.type "set") _) _ _ _));refine wpAny_pure ⟨Code.quiet_builtin _ (by decide+kernel),codeAny_builtin F.entry_type_call ?_⟩;rw[Around.under_plain (weight_type_call_type "set" [.ref l] []) rfl];have h1:=F.called_set.notType;have h2:=F.called_set.canCreate;have aK:=F.typeCall_set_1 (.ref l);repeat(any_goals(first|assumption|wp_step))
 refine codeAny_mono (tW (.ref l) (E:=E) (Q:= λ obj ab=>obj= .ref s.heap.objs.size/\ab={ s with heap:=s.heap.push { cls:= .type "set",dict:=none,data:= .set #[] 0 (.fresh 0 0 (!w.params.followText "set-order")) } }) ⟨rfl,rfl⟩) λ r ab hr=>?_;cases r with
 |error e=>exact hr
 |ok fl=>cases fl with
  |ret obj=>
   obtain⟨rfl,rfl⟩:=hr;have hS:(s.heap.push ({ cls:= .type "set",dict:=none,data:= .set #[] 0 (.fresh 0 0 (!w.params.followText "set-order")) }:Obj)).get? s.heap.objs.size=some ({ cls:= .type "set",dict:=none,data:= .set #[] 0 (.fresh 0 0 (!w.params.followText "set-order")) }:Obj):=Heap.get?_push_size _ rfl;have hT:Shared.TypeIs { s with heap:=s.heap.push ({ cls:= .type "set",dict:=none,data:= .set #[] 0 (.fresh 0 0 (!w.params.followText "set-order")) }: Obj) } (.ref s.heap.objs.size) "set":=⟨_,hS,rfl⟩;have aL:=F.called_set.init.lookup;have aM:=F.called_set.init.bind (.ref s.heap.objs.size);repeat (any_goals (first | assumption | wp_step))
   refine codeAny_mono (codeAny_call_builtin (R:=wants (fun r ae=>r=.none∧∃ (h':Heap) (tk:Nat) (ls:List (List Int × Addr)) (ep:Nat) (t:SetTable),ae={ s with heap:=h',toks:=tk }∧cT w h' s.heap.objs.size (ls.map (ek prog w)) ep t∧(ls.map (·.1)).Nodup∧(∀ z,z ∈ ls.map (·.1) ↔ ∃ j,j < items.size∧val j=z)∧(∀ p ∈ ls,∃ j,j < items.size∧ad j=p.2∧val j=p.1) ∧
     (∀ b o,s.heap.get? b=some o->h'.get? b=some o)) E) F.called_set.init.plain F.entry_set_init (check_set_init_1 hT ?_)) fun ah ae C=>?_
   .obtain ⟨⟨aH,ay,az,aw⟩,ai,aj,nl,ak⟩:=hl;simp only at aj ak;subst aj;subst ak;have ao:=Heap.get?_push_of_some ({ cls:=.type "set",dict:=none,data:=.set #[] 0 (.fresh 0 0 (!w.params.followText "set-order")) }:Obj) ai;have aI:=uE;have aJ:=uG;have aN:(Value.type "tuple" == Value.type "dict")=false:=by decide
    have aq:(s.heap.push ({ cls:=.type "set",dict:=none,data:=.set #[] 0 (.fresh 0 0 (!w.params.followText "set-order")) }:Obj)).IsTuple l items:=⟨_,ao,rfl,nl,rfl⟩;unfold Builtin.«set.__init__» noKeywords Builtin.Frozenset.updateFrom;generalize aA:pyIter=PI;wp_walk;subst aA;refine wpAny_pyIter_tuple (s:={ s with heap:=s.heap.push ({ cls:=.type "set",dict:=none,data:=.set #[] 0 (.fresh 0 0 (!w.params.followText "set-order")) }:Obj) }) aq ?_;refine wpAny_bind (wpAny_runValue ?_);have ar:l < s.heap.objs.size:=Heap.lt_size ai;have aB:A.in1.in1.in1.handled=none:=by simp [hh]
    have au:l ≠ (s.heap.push ({ cls:=.type "set",dict:=none,data:=.set #[] 0 (.fresh 0 0 (!w.params.followText "set-order")) }:Obj)).objs.size:=by rw [Heap.size_push];exact Nat.ne_of_lt (Nat.lt_succ_of_lt ar)
    have aC:s.heap.objs.size ∉ [(s.heap.push ({ cls:=.type "set",dict:=none,data:=.set #[] 0 (.fresh 0 0 (!w.params.followText "set-order")) }:Obj)).objs.size,l]:= by
     rw [Heap.size_push];intro hm;rcases List.mem_cons.mp hm with e | hm
     .exact Nat.ne_of_lt (Nat.lt_succ_self _) e
     .exact Nat.ne_of_gt ar (List.mem_singleton.mp hm)
    have J:∀ j,j < items.size->ad j < s.heap.objs.size:=fun j hj=>by obtain ⟨o,_,_,ho,_⟩:=hk j hj;exact Heap.lt_size ho
    refine zV (Walks.tuple aB _ l au items) s.heap.objs.size aC val ad (fun i v hv=>hi i v hv) hb (by simp;omega) (fun j hj=>⟨Nat.ne_of_lt (J j hj),fun hm=>?_⟩) (items.size - 0) 0 _ s.toks [] 0 (.fresh 0 0 (!w.params.followText "set-order")) (by omega) (Nat.zero_le _) ⟨⟨_,Heap.get?_push_size _ rfl,rfl,rfl⟩,aq.push _⟩
     (fun j hj=>(hk j hj).keeps fun o e=>Heap.get?_push_of_some _ (Heap.get?_push_of_some _ e)) (mw (Heap.get?_push_of_some _ hS)).x (fun _=>mw (Heap.get?_push_of_some _ hS)) (Nat.zero_le _) List.nodup_nil (fun z=>⟨fun hz=>(by cases hz),fun ⟨j,hj,_⟩=>absurd hj (Nat.not_lt_zero _)⟩) (fun p hp=>nomatch hp) fun h' aD l' aE t' kp x' af U aa=>?_
    .have e':=List.mem_singleton.mp hm;have:=J j hj;rw [e',Heap.size_push] at this;exact absurd this (Nat.not_lt.mpr (Nat.le_succ _))
    refine wpAny_pure (?_:wpAny _ _ (ret Value.none) _ _ _)
    refine wpAny_pure ⟨rfl,h',aD,l',aE,t',rfl,x',af,U,aa,fun b o e=>?_⟩
    .have av:=Heap.lt_size e
     refine kp b o (fun hm=>?_) (Heap.get?_push_of_some _ (Heap.get?_push_of_some _ e))
     rcases List.mem_cons.mp hm with e' | hm
     .exact Nat.ne_of_lt av e'
     .have:=List.mem_singleton.mp hm
      rw [Heap.size_push] at this
      exact Nat.ne_of_lt (Nat.lt_succ_of_lt av) this
   .cases ah with
    | error e=>exact C
    | ok ag=>
     cases ag with
     | ret r=>
      obtain ⟨rfl,h',tk,ls,ep,t,rfl,x',af,U,aa,kp⟩:=C
      repeat (any_goals (first | assumption | wp_step))
      exact h _ _ ls ep t x' af U aa kp
     | _=>exact C.elim
  | _=>exact hr.elim
end
end Jt.Tu
namespace Jt.Tu
open PySem Jt PyProof.Rows PySem.W
noncomputable def cK:List Int->List Int->Bool
 | [],[]=>false
 | [],_ :: _=>true
 | _ :: _,[]=>false
 | x :: xs,y :: ys=>if x=y then cK xs ys else decide (x < y)
theorem vP:∀ {a b c:List Int},cK b a=false->cK c b=false->cK c a=false
 | [],_,[],_,_=>rfl
 | [],_,_ :: _,_,_=>rfl
 | x :: xs,[],c,h,_=>by cases h
 | x :: xs,y :: ys,[],_,h=>by cases h
 | x :: xs,y :: ys,z :: zs,h1,h2=>by
  unfold cK at h1 h2 ⊢
  by_cases e1:y=x
  .subst e1
   rw [if_pos rfl] at h1
   by_cases e2:z=y
   .subst e2
    rw [if_pos rfl] at h2 ⊢
    exact vP h1 h2
   .rw [if_neg e2] at h2 ⊢
    exact h2
  .rw [if_neg e1,decide_eq_false_iff_not] at h1
   by_cases e2:z=y
   .subst e2
    rw [if_neg e1,decide_eq_false_iff_not]
    exact h1
   .rw [if_neg e2,decide_eq_false_iff_not] at h2
    rw [if_neg (by omega),decide_eq_false_iff_not]
    omega
theorem oj:∀ {a b:List Int},cK a b=true->cK b a=false
 | [],[],h=>by cases h
 | [],_ :: _,_=>rfl
 | _ :: _,[],h=>by cases h
 | x :: xs,y :: ys,h=>by
  unfold cK at h ⊢
  by_cases e:x=y
  .subst e
   rw [if_pos rfl] at h ⊢
   exact oj h
  .rw [if_neg e,decide_eq_true_eq] at h
   rw [if_neg (fun z=>e z.symm),decide_eq_false_iff_not]
   omega
theorem nH:∀ {a b:List Int},cK a b=false->cK b a=false->a=b
 | [],[],_,_=>rfl
 | [],_ :: _,h,_=>by cases h
 | _ :: _,[],_,h=>by cases h
 | x :: xs,y :: ys,h1,h2=>by
  unfold cK at h1 h2
  by_cases e:x=y
  .subst e
   rw [if_pos rfl] at h1 h2
   rw [nH h1 h2]
  .rw [if_neg e,decide_eq_false_iff_not] at h1
   rw [if_neg (fun z=>e z.symm),decide_eq_false_iff_not] at h2
   omega
noncomputable def gT (ks:List (List Int)) (i j:Nat):Bool:=cK (ks.getD i []) (ks.getD j [])
theorem Cp (ks:List (List Int)):So.OrdG (gT ks) where
 tr:=fun a b c h k=>vP h k
 as:=fun a b h=>oj h
noncomputable def mV (ks:List (List Int)):Array Nat:=OV (gT ks) (kas_sort ks.length)
theorem qJ {ks:List (List Int)} (h:1 ≤ ks.length):So.Bs ks.length (mV ks)∧So.Up (gT ks) (mV ks) ks.length:=(So.w_sort (Cp ks) h).ev
noncomputable def pickT {α:Type} (ks:List (List Int)) (z:α) (vs:List α):List α:=if ks.length < 2 then vs else (mV ks).toList.map fun i=>vs.getD i z
theorem eW {α:Type} (ks:List (List Int)) (z:α) (vs:List α) (hl:vs.length=ks.length):(pickT ks z vs).Perm vs:= by
 unfold pickT
 split
 .exact .refl _
 .rename_i h
  have b:=(qJ (ks:=ks) (by omega)).1
  have p:(mV ks).toList.Perm (List.range ks.length):=by simpa using Array.perm_iff_toList_perm.mp b
  have e:(List.range ks.length).map (fun i=>vs.getD i z)=vs:= by
   apply List.ext_getElem?
   intro i
   rw [List.getElem?_map]
   by_cases hi:i < ks.length
   .rw [List.getElem?_range hi]
    simp [List.getD_eq_getElem?_getD,List.getElem?_eq_getElem (show i < vs.length by omega)]
   .rw [List.getElem?_eq_none (by simpa using hi),List.getElem?_eq_none (by omega)];rfl
  exact (p.map _).trans (by rw [e])
theorem h9 (ks:List (List Int)):(pickT ks [] ks).Pairwise (fun a b=>cK b a=false):= by
 unfold pickT
 split
 .rename_i h
  match ks,h with
  | [],_=>exact .nil
  | [a],_=>exact List.pairwise_singleton _ _
  | _ :: _ :: _,h=>exact absurd h (by simp)
 .rename_i h
  obtain ⟨b,u⟩:=qJ (ks:=ks) (by omega)
  rw [List.pairwise_map,List.pairwise_iff_getElem]
  intro i j hi hj hij
  have hj':j < ks.length:=by rw [<- b.size];simpa using hj
  have:=u i j (by omega) hj'
  have e:∀ k (hk:k < (mV ks).toList.length),So.at0 (mV ks) k=(mV ks).toList[k]:=fun k hk=>by
   have hk':k < (mV ks).size:=by simpa using hk
   simp [So.at0,Array.getD,hk']
  rw [e i hi,e j hj] at this
  exact this
theorem gF {α β:Type} (ks:List (List Int)) (f:α->β) (z:α) (vs:List α):(pickT ks z vs).map f=pickT ks (f z) (vs.map f):= by
 unfold pickT
 split
 .rfl
 .rw [List.map_map]
  refine List.map_congr_left fun i _=>?_
  simp [List.getD_eq_getElem?_getD]
theorem jb {α:Type} {ks:List (List Int)} {vs:List α} (h:vs.length=ks.length) (z z':α):pickT ks z vs=pickT ks z' vs:= by
 unfold pickT
 split
 .rfl
 .rename_i hl
  have b:=(qJ (ks:=ks) (by omega)).1
  have p:(mV ks).toList.Perm (List.range ks.length):=by simpa using Array.perm_iff_toList_perm.mp b
  refine List.map_congr_left fun i hi=>?_
  have:=List.mem_range.mp (p.mem_iff.mp hi)
  simp [List.getD_eq_getElem?_getD,List.getElem?_eq_getElem (show i < vs.length by omega)]
section
variable {prog:Program} {w:World} {A:Around} {E:Value->Shared->Prop} {s:Shared}
theorem BF {b fin:Bool} {Q:Bool->Shared->Prop}:∀ {ks js:List Int} {vs us:List Value} {i:Nat},ItemsAre (intKind prog w) ks vs->ItemsAre (intKind prog w) js us->(fin=decide (i + vs.length < i + us.length))->Q (cK ks js) s->KatLex prog w A b fin Q (vs.zip us) i s
 | [],[],_,_,i,.nil,.nil,hf,h=>by
  have:fin=false:=by simpa using hf
  subst this
  exact kat_nil h
 | [],_ :: _,_,_,i,.nil,.cons _ _,hf,h=>by
  have:fin=true:=by simpa using hf
  subst this
  exact kat_nil h
 | _ :: _,[],_,_,i,.cons _ _,.nil,hf,h=>by
  have:fin=false:=by rw [hf,decide_eq_false_iff_not];simp
  subst this
  exact kat_nil h
 | x :: xs,y :: ys,v :: vs,u :: us,i,.cons h1 r1,.cons h2 r2,hf,h=>by
  refine kat_cons ((intKind prog w).eqBool h1 h2 ?_)
  unfold cK at h
  by_cases e:x=y
  .rw [decide_eq_true e]
   rw [if_pos e] at h
   refine kat_yes (BF r1 r2 ?_ h)
   rw [hf]
   simp only [List.length_cons]
   congr 1
   rw [eq_iff_iff]
   omega
  .rw [decide_eq_false e]
   rw [if_neg e] at h
   obtain ⟨t1,rfl⟩:=Value.isInt_shape (show Value.isInt x v=true from h1)
   obtain ⟨t2,rfl⟩:=Value.isInt_shape (show Value.isInt y u=true from h2)
   refine kat_no ?_
   cases hb:(b && i == 0) with
   | true=>exact oneLt_int h
   | false=>exact kat_one _ _ (PyProof.Rows.lt_int h)
theorem KO {ks js:List Int} {a c:Addr} {b:Bool} {Q:Bool->Shared->Prop} (h1:fu prog w s.heap ks a) (h2:fu prog w s.heap js c) (h:Q (cK ks js) s):wpAny (model prog w) A (keyLt' (tuples' b) (.ref a) (.ref c)) Q E s:= by
 obtain ⟨o,xs,n,ho,_,hd,hi⟩:=h1
 obtain ⟨o2,ys,n2,ho2,_,hd2,hi2⟩:=h2
 refine kat_lt ho hd ho2 hd2 (BF hi hi2 ?_ h)
 simp
noncomputable def sE (prog:Program) (w:World) (h:Heap) (ks:List (List Int)) (vs:List Value):Prop:=vs.length=ks.length∧∀ (i:Nat) (k:List Int),ks[i]? = some k->∃ b:Addr,vs[i]? = some (Value.ref b)∧fu prog w h k b
theorem sE.keeps {h h':Heap} {ks:List (List Int)} {vs:List Value} (x:sE prog w h ks vs) (k:∀ b o,h.get? b=some o->o.cls=.type "tuple" -> h'.get? b=some o):sE prog w h' ks vs:=⟨x.1,fun i q e=>by
 obtain ⟨b,e1,o,its,n,ho,hc,r⟩:=x.2 i q e
 exact ⟨b,e1,o,its,n,k b o ho hc,hc,r⟩⟩
theorem tB {h:Heap}:∀ {ks:List (List Int)} {vs:List Value},sE prog w h ks vs->(∀ k ∈ ks,k ≠ [])->∃ fs,KatTups h vs fs∧fs.length=vs.length∧∀ v ∈ fs,∃ i u,v=Value.int i u
 | [],[],_,_=>⟨[],trivial,rfl,fun v hv=>nomatch hv⟩
 | [],_ :: _,h,_=>by have:=h.1;simp at this
 | _ :: _,[],h,_=>by have:=h.1;simp at this
 | k :: ks,v :: vs,h,hn=>by
  obtain ⟨fs,a,b,c⟩:=tB (ks:=ks) (vs:=vs) ⟨by simpa using h.1,fun i q e=>h.2 (i + 1) q (by simpa using e)⟩ fun k hk=>hn k (List.mem_cons_of_mem _ hk)
  obtain ⟨ad,e1,o,its,n,ho,hc,hd,hi⟩:=h.2 0 k rfl
  cases e1
  cases k with
  | nil=>exact absurd rfl (hn [] List.mem_cons_self)
  | cons x xs=>
   have hl:its.toList[0]? ≠ none:= by
    generalize its.toList=q at hi
    cases hi
    simp
   cases e2:its[0]? with
   | none=>rw [<- Array.getElem?_toList] at e2;exact absurd e2 hl
   | some f=>
    refine ⟨f :: fs,KatTups.cons ho hc hd e2 a,by simp [b],fun u hu=>?_⟩
    rcases List.mem_cons.mp hu with rfl | hu
    .rw [<- Array.getElem?_toList] at e2
     generalize its.toList=q at hi e2
     cases hi with
     | cons h1 r1=>
      cases e2
      obtain ⟨t,e⟩:=Value.isInt_shape (show Value.isInt x _=true from h1)
      exact ⟨x,t,e⟩
    .exact c u hu
theorem oY {a:Addr} {vs:List Value} {ks:List (List Int)} {n:Nat} {P:PySem.Fin->Shared->Prop} (ho:s.heap.get? a=some (seqObj "list" vs.toArray n)) (hT:sE prog w s.heap ks vs) (hne:∀ k ∈ ks,k ≠ []) (h64:vs.length < 64)
  (h:P (.done (.ret .none)) { s with heap:=sortedHeap s.heap a vs (pickT ks Value.none vs).toArray }):wpAny (model prog w) A (Builtin.«list.sort» ⟨[.ref a],[]⟩) P E s:= by
 rw [list_sort_plain]
 have ha:a < s.heap.objs.size:=Heap.lt_size ho
 refine wpAny_bind (listItems_at ho rfl ?_)
 refine wpAny_bind (listUpdate_at ho rfl ?_)
 obtain ⟨e1,ho1⟩:∃ e1,(s.heap.update a (Obj.mapSeq fun _=>#[])).get? a=some (seqObj "list" #[] e1):=⟨_,get?_update_seq ho (fun _=>#[])⟩
 refine wpAny_bind (seqEpoch_at ho1 rfl ?_)
 refine wpAny_bind (wpAny_newTuple ?_)
 refine wpAny_bind (wpAny_newList ?_)
 refine wpAny_holding ?_
 have ho6:(((s.heap.update a (Obj.mapSeq fun _=>#[])).push (seqObj "tuple" vs.toArray 0)).push (seqObj "list" #[] 0)).get? a=some (seqObj "list" #[] e1):= by
  rw [Heap.get?_push_ne _ _ _ (by rw [size_push',Heap.size_update];exact Nat.ne_of_lt (Nat.lt_succ_of_lt ha)),Heap.get?_push_ne _ _ _ (by rw [Heap.size_update];exact Nat.ne_of_lt ha)]
  exact ho1
 show wpAny (model prog w) A _ P E { s with heap:=((s.heap.update a (Obj.mapSeq fun _=>#[])).push (seqObj "tuple" vs.toArray 0)).push (seqObj "list" #[] 0) }
 dsimp only
 have hsz:vs.toArray.size=vs.length:=by simp
 have hl:=hT.1
 have pl:(pickT ks Value.none vs).length=vs.length:=(eW ks Value.none vs hl).length_eq
 have hT2:sE prog w (((s.heap.update a (Obj.mapSeq fun _=>#[])).push (seqObj "tuple" vs.toArray 0)).push (seqObj "list" #[] 0)) ks vs:=hT.keeps fun b o e hc=>by
  have hb:b ≠ a:=fun z=>by
   rw [z,ho] at e
   rw [<- Option.some.inj e] at hc
   exact absurd (show (Value.type "list")=Value.type "tuple" from hc) (by decide)
  exact Heap.get?_push_of_some _ (Heap.get?_push_of_some _ ((Heap.get?_update_other _ _ (Ne.symm hb)).trans e))
 by_cases h2:vs.toArray.size < 2
 .rw [if_pos h2,if_pos h2]
  refine wpAny_bind (wpAny_pure ?_)
  rw [StateT.run_pure]
  refine wpAny_bind (wpAny_pure ?_)
  dsimp only
  refine wpAny_bind (seqEpoch_at ho6 rfl ?_)
  have ep:(arrOf (SortSt.mk' general' (vs.toArray.zip vs.toArray) #[] 7 none)).map (·.2)=(pickT ks Value.none vs).toArray:= by
   have:pickT ks Value.none vs=vs:=by unfold pickT;rw [if_pos (by omega)]
   rw [this]
   show ((vs.toArray.zip vs.toArray).map (·.2))=vs.toArray
   apply Array.toList_inj.mp
   simp [List.map_snd_zip]
  rw [ep]
  refine wpAny_bind (listUpdate_at ho6 rfl ?_ (hsz2:=by show (pickT ks Value.none vs).length ≤ _;rw [pl,sizeLine_eq];omega))
  simp only [bne_self_eq_false,Bool.false_eq_true,if_false]
  exact wpAny_pure h
 .rw [if_neg h2,if_neg h2]
  rw [hsz] at h2
  obtain ⟨fs,kt,fl,fi⟩:=tB hT2 hne
  refine wpAny_bind (kat_kind (T:=.type "int") kt (by omega) (fun v hv=>?_) (by decide) ?_)
  .obtain ⟨i,u,rfl⟩:=fi v hv
   exact Looks.now
  refine wpAny_bind (wpAny_mono (kat_run (E:=E) (ks:=vs) (vs:=vs) (κ:=tuples' ((Value.type "int") != Value.type "tuple")) (Q:=fun st s''=>(arrOf st).map (·.2)=(pickT ks Value.none vs).toArray∧failedOf st=none∧s'' = { s with heap:=((s.heap.update a (Obj.mapSeq fun _=>#[])).push (seqObj "tuple" vs.toArray 0)).push (seqObj "list" #[] 0) })
   (G:=fun p s''=>p=mV ks∧s'' = { s with heap:=((s.heap.update a (Obj.mapSeq fun _=>#[])).push (seqObj "tuple" vs.toArray 0)).push (seqObj "list" #[] 0) }) rfl (by omega) h64 (fun p st s'' hp ha hf hg=>⟨?_,hf,hg.2⟩) ?_) ?_ fun _ _ x=>x)
  .rw [kat_snds rfl ha,hg.1]
   unfold pickT
   rw [if_neg (by omega)]
  .have ws:=So.w_sort (Cp ks) (n:=vs.length) (by omega)
   refine So.WpT.kas (g:=gT ks) (n:=vs.length) (fun i j C hi hj hC=>?_) ws ⟨by unfold mV;rw [hl],rfl⟩
   unfold kas_ask
   obtain ⟨b1,e1',k1⟩:=hT2.2 i (ks[i]'(by omega)) (List.getElem?_eq_getElem _)
   obtain ⟨b2,e2',k2⟩:=hT2.2 j (ks[j]'(by omega)) (List.getElem?_eq_getElem _)
   have d1:vs.getD i Value.none=.ref b1:=by rw [List.getD_eq_getElem?_getD,e1'];rfl
   have d2:vs.getD j Value.none=.ref b2:=by rw [List.getD_eq_getElem?_getD,e2'];rfl
   rw [d1,d2]
   refine KO k1 k2 ?_
   have:gT ks i j=cK (ks[i]'(by omega)) (ks[j]'(by omega)):= by
    unfold gT
    rw [List.getD_eq_getElem?_getD,List.getD_eq_getElem?_getD,List.getElem?_eq_getElem (by omega),List.getElem?_eq_getElem (by omega)];rfl
   rw [<- this];exact hC
  .rintro ⟨⟨⟩,st⟩ s'' ⟨hout,hf,rfl⟩
   dsimp only
   refine wpAny_bind (seqEpoch_at ho6 rfl ?_)
   rw [hout]
   refine wpAny_bind (listUpdate_at ho6 rfl ?_ (hsz2:=by show (pickT ks Value.none vs).length ≤ _;rw [pl,sizeLine_eq];omega))
   rw [hf]
   simp only [bne_self_eq_false,Bool.false_eq_true,if_false]
   exact wpAny_pure h
theorem oy {v:Value} {Q:Value->Shared->Prop} {Ok:List (List Int)->List Value->Prop}
  (hc:∀ (A':Around) (Q':List Value->Shared->Prop) (E':Value->Shared->Prop),(A'.handled=A.handled)->(∀ (vs:List Value) (ks:List (List Int)) (h':Heap) (tk:Nat) (d:Drawn),Ok ks vs->vs.length < 64->(∀ k ∈ ks,k ≠ [])->sE prog w h' ks vs->(∀ b o,s.heap.get? b=some o->h'.get? b=some o)->Q' vs { s with heap:=h',toks:=tk,drawn:=d }) ->
   wpAny (model prog w) A' (collect v) Q' E' s)
  (h:∀ (h1 h':Heap) (tk:Nat) (d:Drawn) (ks:List (List Int)) (vs:List Value) (e:Nat),Ok ks vs->vs.length=ks.length->(∀ b o,s.heap.get? b=some o->h1.get? b=some o)->(∀ b o,h1.get? b=some o->h'.get? b=some o)->h'.get? h1.objs.size=some { cls:=.type "list",data:=.seq (pickT ks Value.none vs).toArray e } ->
   Q (.ref h1.objs.size) { s with heap:=h',toks:=tk,drawn:=d }) :
  wpAny (model prog w) A (call (.builtin "sorted") [v]) Q E s:= by
 refine Calls.call_function_entry PyProof.Rows.kind_sorted PyProof.Rows.plain_sorted PyProof.Rows.entry_sorted (PyProof.Rows.args_sorted1 _) ?_
 unfold Builtin.«sorted»
 refine wpAny_bind (m:=checkCount "sorted" 1 1 _) (wpAny_pure ?_)
 refine wpAny_bind (hc _ _ _ (by simp) fun vs ks h1 tk d hok h64 hne hT kp=>?_)
 refine wpAny_bind (wpAny_newList ?_ (by rw [sizeLine_eq];omega))
 have g1:(h1.push (PyProof.Rows.seqObj "list" vs.toArray 0)).get? h1.objs.size=some (PyProof.Rows.seqObj "list" vs.toArray 0):=Heap.get?_push_size _ rfl
 have hT2:sE prog w (h1.push (PyProof.Rows.seqObj "list" vs.toArray 0)) ks vs:=hT.keeps fun b o e _=>Heap.get?_push_of_some _ e
 refine wpAny_bind (wpAny_holding (wpAny_call_entry PyProof.Rows.slot_list_sort ⟨_,g1,rfl⟩ PyProof.Rows.entry_list_sort (oY (s:={ s with heap:=h1.push (PyProof.Rows.seqObj "list" vs.toArray 0),toks:=tk,drawn:=d }) g1 hT2 hne h64 ⟨_,rfl,?_⟩) (PyProof.Rows.args_list_sort _)))
 obtain ⟨e,he⟩:=PyProof.Rows.sortedHeap_at (out:=(pickT ks Value.none vs).toArray) g1
 refine wpAny_pure ⟨_,rfl,h h1 _ tk d ks vs e hok hT.1 kp (fun b o eb=>?_) (by simpa [PyProof.Rows.seqObj] using he)⟩
 have hb:=Heap.lt_size eb
 show (PyProof.Rows.sortedHeap (h1.push (PyProof.Rows.seqObj "list" vs.toArray 0)) h1.objs.size vs (pickT ks Value.none vs).toArray).get? b=some o
 rw [PyProof.Rows.sortedHeap_old (Nat.ne_of_lt hb) (by rw [Heap.size_push];exact Nat.lt_succ_of_lt hb)]
 exact Heap.get?_push_of_some _ eb
end
end Jt.Tu
namespace Jt.Tu
open PySem Jt L2 PyProof.Rows
noncomputable def uO(x:List Int):List (List Int)->List (List Int)
 |[]=>[x]
 |y::r=>if x=y then y::r else if cK x y=true then x::y::r else y::uO x r
noncomputable def o9(o:List (List Int)):List (List Int):=o.foldr uO []
theorem mF: ∀{l:List (List Int)},z∈uO x l↔z=x\/z∈l
 |[]=>by simp[uO]
 |y::r=>by
  unfold uO;split;. rename_i e;subst e;simp
  .split;. simp
   .rw[List.mem_cons,mF];grind
theorem jQ: ∀{l:List (List Int)},z∈o9 l↔z∈l
 |[]=>by rfl
 |x::r=>by show z∈uO x (o9 r)↔_;rw[mF,jQ,List.mem_cons]
noncomputable abbrev zX(l:List (List Int)):Prop:=l.Pairwise λ a b=>cK a b=true
theorem lex_trans(o:cK a b=true)(C:cK b c=true):cK a c=true:=by cases q:cK a c with
 |true=>rfl
 |false=>have e:=vP (a:=c) (b:=a) (c:=b) q (oj o);grind
theorem uz: ∀{l:List (List Int)},zX l->zX (uO x l)
 |[],_=>List.pairwise_singleton _ _
 |y::r,h=>by
  have h':=List.pairwise_cons.mp h;unfold uO;split;. exact h
  .rename_i ne;split
   .rename_i lt;refine List.pairwise_cons.mpr ⟨λ z hz=>?_,h⟩;rcases List.mem_cons.mp hz with rfl|hz
    .exact lt
    .exact lex_trans lt (h'.1 z hz)
   .rename_i o;refine List.pairwise_cons.mpr ⟨λ z hz=>?_,uz h'.2⟩;rcases mF.mp hz with rfl|hz
    .cases q:cK y z with
     |true=>rfl
     |false=>exact absurd (nH (Bool.eq_false_iff.mpr o) q) ne
    simp_all
theorem iE: ∀l:List (List Int),zX (o9 l)
 |[]=> .nil
 |x::r=>uz (iE r)
theorem w9(a:List Int):cK a a=false:=by cases q:cK a a with
 |false=>rfl
 |true=>have:=oj q;grind
theorem l7: ∀{a b:List (List Int)},zX a->zX b->(∀z,z∈a↔z∈b)->a=b
 |[],[],_,_,_=>rfl
 |[],y::r,_,_,h=>by have:=(h y).mpr List.mem_cons_self;cases this
 |x::r,[],_,_,h=>by have:=(h x).mp List.mem_cons_self;cases this
 |x::r,y::q,U,hb,h=>by
  have o:=List.pairwise_cons.mp U;have C:=List.pairwise_cons.mp hb;have I:x=y:=by
   rcases List.mem_cons.mp ((h x).mp List.mem_cons_self)with e|e
   .exact e
   .rcases List.mem_cons.mp ((h y).mpr List.mem_cons_self)with J|J
    .exact J.symm
    .have l1:=C.1 x e;have l2:=o.1 y J;have:=oj l1;rw[l2]at this;cases this
  subst I;have:r=q:=l7 o.2 C.2 λ z=>by
   have hz:=h z;rw[List.mem_cons,List.mem_cons]at hz;constructor
   .intro m;rcases hz.mp (.inr m)with e|e
    .subst e;have:=o.1 z m;rw[w9]at this;cases this
    .exact e
   .intro m;rcases hz.mpr (.inr m)with e|e
    .subst e;have:=C.1 z m;rw[w9]at this;cases this
    .exact e
  grind
theorem vG{α β:Type}{f:α->β}{a b:List β}(p:a.Perm b): ∀l:List α,b=l.map f-> ∃o:List α,o.Perm l/\a=o.map f:=by induction p with
 |nil=>intro l e;exact⟨l,.refl _,e⟩
 |cons x _ ih=>intro l e;cases l with
  |nil=>cases e
  |cons y r=>injection e with I C;obtain⟨o,J,U⟩:=ih r C;exact⟨y::o,J.cons y,by rw[List.map_cons,U,I]⟩
 |swap x y t=>intro l e;match l,e with
  |p::q::r,e=>injection e with I C;injection C with C e3;exact⟨q::p::r,.swap _ _ _,by rw[List.map_cons,List.map_cons,I,C,e3]⟩
  |[],e=>cases e
  |[_],e=>cases e
 |trans _ _ J U=>intro l e;obtain⟨o,a1,a2⟩:=U l e;obtain⟨l2,b1,b2⟩:=J o a2;exact⟨l2,b1.trans a1,b2⟩
section
variable {X:Cx}
noncomputable def o4:V->Addr
 | .ref p=>p
 |_=>0
theorem sO: ∀{ns:List Int}{us:List Value},IntsAre us ns->ItemsAre (intKind prog w) ns us
 |_,_,.nil=> .nil
 |_,_,.cons n t r=> .cons (by simp[intKind,Value.isInt]) (sO r)
theorem j1{σ:L2.St}{H:Hp}{s:Shared}(I:Inv X pins σ H s){p:Addr}{ns:List Int}(C:gm X.K H p (ns.map V.int)):fu X.prog X.w s.heap ns p:=by obtain⟨its,J,⟨o,U,hc,n,hd⟩,hz⟩:=I.tuple C;exact⟨o,its.toArray,n,U,hc,hd,by simpa using sO (intsAre_of J)⟩
theorem mM{K:PySem.W.Frag}{H:Hp}: ∀{vs:List V}{o:List (List Int)},IK K H vs o->vs.length=o.length/\ ∀i,i<vs.length->vs.getD i .non= .ref (o4 (vs.getD i .non))/\gm K H (o4 (vs.getD i .non)) ((o.getD i []).map V.int)
 |[],o,h=>by have h':o=[]:=h;grind
 |v::vs,o,h=>by obtain⟨p,ns,r,rfl,C,rfl,h⟩:=h;obtain⟨a,b⟩:=mM h;refine⟨by simp[a],λ i I=>?_⟩;cases i with
  |zero=>exact⟨rfl,C⟩
  |succ i=>simpa using b i (by simpa using I)
theorem pG: ∀ps:List (List Int×Addr),Vals (ps.map λ pr=>V.ref pr.2) (ps.map λ pr=>Value.ref pr.2)
 |[]=> .nil
 |p::r=> .cons rfl (pG r)
noncomputable def sZ(prog:Program)(w:World)(S:Addr)(prs:List (List Int×Addr))(o:List (List Int)):HO:= .ext λ h=> ∃(l:List (List Int×Addr)) (C:Nat) (t:SetTable),cT w h S (l.map (ek prog w)) C t/\(l.map (·.1)).Nodup/\(∀z,z∈l.map (·.1)↔z∈o)/\(∀p∈l,p∈prs)/\l.length<=5
theorem yK(hc:X.calm=true)(hu:X.A.units+20<cLine):du X (.type "set") (λ xs H Q=> ∃p vs C,xs=[.ref p]/\gm X.K H p vs/\IK X.K H vs C/\C.length<=5/\ ∀l,H l=none->Q (.ref l) (upd H l (sZ X.prog X.w l (C.zip (vs.map o4)) C))):=by
 intro pins s σ H xs us Q I r h;obtain⟨p,vs,C,rfl,hq,ht,h5,q⟩:=h;obtain⟨u,rfl,ru⟩:=r.one;cases ru;obtain⟨its,rv,pl,hz⟩:=I.tuple hq;obtain⟨hl,U⟩:=mM ht;have hn:its.toArray.size=vs.length:=by rw[List.size_toArray,<- rv.length]
 refine zm (val:= λ i=>C.getD i []) (ad:= λ i=>o4 (vs.getD i .non)) (I.ok.hd hc) (by omega) (show s.heap.IsTuple p its.toArray from pl) (λ i v hv=>?_) (λ i hi=>j1 I (U i (by omega)).2) (by omega) λ h' tk ls ep t x nd mem src k=>?_
 .have hi:i<vs.length:=by
   have:=(Array.getElem?_eq_some_iff.mp hv).1;omega
  have e:its[i]?=some v:=by simpa using hv
  have rr:=jk rv i;rw[List.getD_eq_getElem?_getD (l:=its),e]at rr;rw[(U i hi).1]at rr;exact rr
 .have e5:ls.length<=5:=by
   have:(ls.map (·.1)).length<=C.length:=by
    have gen: ∀(a b:List (List Int)),a.Nodup->(∀x∈a,x∈b)->a.length<=b.length:=by intro a;induction a with
     |nil=>intro b _ _;exact Nat.zero_le _
     |cons x r ih=>
      intro b nd hs;have n:=List.nodup_cons.mp nd;have hx:=hs x List.mem_cons_self;have:=ih (b.erase x) n.2 λ y hy=>(List.mem_erase_of_ne (show y≠x from λ z=>n.1 (z▸hy))).mpr (hs y (List.mem_cons_of_mem _ hy));rw[List.length_erase_of_mem hx]at this;have p:=List.length_pos_of_mem hx;rw[List.length_cons];omega
    grind
   grind
  refine⟨.ref s.heap.objs.size,_,I.laid (t':=tk) (o:=sZ X.prog X.w s.heap.objs.size (C.zip (vs.map o4)) C) k (Nat.le_refl _) ⟨⟨ls,ep,t,x,nd,λ z=>(mem z).trans ⟨λ⟨j,hj,e⟩=>?_,λ hz=>?_⟩,λ p hp=>?_,e5⟩,?_,λ h1 h2 ⟨l,ep,t,x,r⟩ k=>⟨l,ep,t,x.at k,r⟩⟩,rfl,q _ I.fresh⟩
  .rw[<- e];have J:j<C.length:=by omega
   simp only[List.getD_eq_getElem?_getD,List.getElem?_eq_getElem J];exact List.getElem_mem J
  .obtain⟨j,hj,e⟩:=List.getElem_of_mem hz;exact⟨j,by omega,by simp[hj,e]⟩
  .obtain⟨j,hj,e1,e2⟩:=src p hp;have J:j<C.length:=by omega
   have aa:j<vs.length:=by omega
   refine List.mem_iff_getElem?.mpr ⟨j,?_⟩;rw[List.getElem?_zip_eq_some];refine⟨?_,?_⟩;. rw[<- e2];simp[J]
   .rw[<- e1];simp[aa]
  .obtain⟨o,ho,_⟩:=x.obj;exact⟨o,ho⟩
theorem rY(hc:X.calm=true):du X (.builtin "sorted") (λ xs H Q=> ∃p prs J,xs=[.ref p]/\H p=some (sZ X.prog X.w p prs J)/\(∀pr∈prs,gm X.K H pr.2 (pr.1.map V.int))/\(∀k∈J,k≠[])/\
  ∀l(ps:List (List Int×Addr)),H l=none->ps.map (·.1)=o9 J->(∀pr∈ps,pr∈prs)->Q (.ref l) (upd H l (.lst (ps.map λ pr=>V.ref pr.2)))):=by
 intro pins s σ H xs us Q I r h;obtain⟨p,prs,J,rfl,hq,aa,ab,q⟩:=h;obtain⟨u,rfl,ru⟩:=r.one;cases ru;obtain⟨⟨l,ep,t,x,nd,mem,src,h5⟩,_⟩:=I.hok p _ hq;refine oy (Ok:= λ ks vs=> ∃C:List (List Int×Addr),C.Perm l/\ks=C.map (·.1)/\vs=C.map λ p=>Value.ref p.2) (λ A' Q' E' hA ae=>?_) λ h1 h' tk d ks vs e af hlen k k2 hg=>?_
 .refine sg (hA.trans (I.ok.hd hc)) x λ ord h' tk d po k=>?_;obtain⟨C,pl,el⟩:=vG po l rfl;have ev:ord.map (λ p=>p.2)=C.map λ p=>Value.ref p.2:=by rw[el,List.map_map];rfl
  rw[ev];refine ae _ (C.map (·.1)) h' tk d ⟨C,pl,rfl,rfl⟩ (by rw[List.length_map,pl.length_eq];omega) (λ k hk=>ab k ((mem k).mp ((pl.map _).mem_iff.mp hk))) ⟨by simp,λ i kk e=>?_⟩ k;rw[List.getElem?_map]at e;cases U:C[i]? with
  |none=>rw[U]at e;cases e
  |some pr=>
   rw[U]at e;cases e;have hm:=pl.mem_iff.mp (List.mem_of_getElem? U);exact⟨pr.2,by rw[List.getElem?_map,U];rfl,(j1 I (aa pr (src pr hm))).keeps λ o e=>k _ o e⟩
 .obtain⟨C,pl,rfl,rfl⟩:=af;have e0:pickT (C.map (·.1)) Value.none (C.map λ p=>Value.ref p.2)=(pickT (C.map (·.1)) ([],0) C).map fun p=>Value.ref p.2:=by rw[gF];exact jb (by simp) _ _
  have e1:(pickT (C.map (·.1)) ([],0) C).map (·.1)=pickT (C.map (·.1)) [] (C.map (·.1)):=by rw[gF]
  have pp:=eW (C.map (·.1)) (([],0):List Int×Addr) C (by simp);rw[e0]at hg;generalize pickT (C.map (·.1)) (([],0):List Int×Addr) C=ps at*;have so:=h9 (C.map (·.1));rw[<-e1]at so;have ag:(ps.map (·.1)).Nodup:=((pp.trans pl).map _).nodup_iff.mpr nd;have es:ps.map (·.1)=o9 J:=l7 ((so.and ag).imp fun{a b} z=>by cases q3:cK a b with
    |true=>rfl
    |false=>exact absurd (nH q3 z.1) z.2) (iE J) fun z=>by rw[jQ,<-mem z];exact((pp.trans pl).map _).mem_iff
  have I1:Inv X pins σ H { s with heap:=h1,toks:=tk,drawn:=d }:=Inv.kd I k;refine⟨.ref h1.objs.size,_,I1.laid (t':=tk) (o:= .lst (ps.map fun pr=>V.ref pr.2)) k2 (Nat.le_refl _) ⟨?_,ps.map fun p=>Value.ref p.2,e,?_,hg⟩,rfl,q _ ps (I1.hok.fresh (Nat.le_refl _)) es fun pr ah=>src pr ((pp.trans pl).mem_iff.mp ah)⟩;· rw[List.length_map,(pp.trans pl).length_eq,sizeLine_eq];omega
  .exact pG ps
end
noncomputable def tD(ns:List Int):D:= .tup (ns.map .int)
noncomputable def sortSetU:D->Option (List D)
 | .tup ds=>match iq ds with
  |some o=>if o.length<=5/\o.all (λ ns=> !ns.isEmpty)=true then some ((o9 o).map tD)else none
  |none=>none
 |_=>none
theorem uK: ∀{ds:List D}{ns:List Int},dN ds=some ns->ds=ns.map .int
 |[],ns,h=>by cases h;rfl
 |d::r,ns,h=>by cases d with
  |int i=>unfold dN at h;cases q:dN r with
   |none=>simp_all
   |some m=>rw[q]at h;cases h;rw[uK q];rfl
  |_=>cases h
theorem uD: ∀{ds:List D}{o:List (List Int)},iq ds=some o->ds=o.map tD
 |[],o,h=>by cases h;rfl
 |d::r,o,h=>by cases d with
  |tup xs=>unfold iq at h;cases C:dN xs with
   |none=>rw[C]at h;cases h
   |some ns=>cases I:iq r with
    |none=>simp_all
    |some J=>rw[C,I]at h;cases h;rw[uD I,uK C];rfl
  |_=>cases h
theorem xm: ∀{o:List (List Int)}{vs:List V},Rs H (o.map tD) vs-> ∀pr∈o.zip (vs.map o4),R H (tD pr.1) (.ref pr.2)
 |[],vs,h,pr,I=>by simp_all
 |ns::r,vs,h,pr,I=>by
  obtain⟨v,q,ev,J,U⟩:=h.inv;subst ev;rcases List.mem_cons.mp I with e|e
  .rw[e];have C:R H (.tup (ns.map .int)) v:=J;obtain⟨p,us,eu,_,_⟩:=C.tup;subst eu;exact J
  .exact xm U pr e
theorem HH: ∀{ps:List (List Int×Addr)},(∀pr∈ps,R H (tD pr.1) (.ref pr.2))->Rs H ((ps.map (·.1)).map tD) (ps.map λ pr=>V.ref pr.2)
 |[],_=> .nil
 |p::r,h=> .cons (h p List.mem_cons_self) (HH λ pr o=>h pr (List.mem_cons_of_mem _ o))
theorem Jx{K:PySem.W.Frag}{H:Hp}{vs:List V}{o:List (List Int)}(h:IK K H vs o): ∀pr∈o.zip (vs.map o4),gm K H pr.2 (pr.1.map V.int):= λ pr C=>by obtain⟨J,I⟩:=mM h;obtain⟨j,U⟩:=List.mem_iff_getElem?.mp C;grind
section
variable {X:Cx} {e:Expr} {fa:M D} {p pos:Pos} {k:Nat}
noncomputable def NX(X:Cx)(te:TE):TE:= λ σ H Q=>te σ H λ x H1=> ∃p vs o,[x]=[V.ref p]/\gm X.K H1 p vs/\IK X.K H1 vs o/\o.length<=5/\ ∀l,H1 l=none->Q (.ref l) (upd H1 l (sZ X.prog X.w l (o.zip (vs.map o4)) o))
theorem Hj(o:cX k X.A)(hm:X.mg "set"=none)(h:PE X e te)(C:Gl X "set":=by rfl)(I:X.calm=true:=by rfl)(he:starEach [e] X.env=[(false,eval e X.env)]:=by rfl):PE X (.Call (.Name "set" p) [e] [] pos) (NX X te):=
 dj (fK (yK I (nY o)) C hm (by rfl) (bu h da he) (by decide) (by rfl) he rfl) λ σ H Q h=>h
theorem df_sortedSetU{p2 aa:Pos}(hr:cX k X.A)(hm:X.mg "sorted"=none)(I:X.mg "set"=none)(h:DE X e fa)(hg:Gl X "sorted":=by rfl)(ae:Gl X "set":=by rfl)(hc:X.calm=true:=by rfl)(he:starEach [e] X.env=[(false,eval e X.env)]:=by rfl):
  DF X (.Call (.Name "sorted" p) [.Call (.Name "set" p2) [e] [] aa] [] pos) (do let x<- fa;lift (sortSetU x)):=
 dj (fo (rY hc) hg hm PyProof.Rows.boot_sorted (bu (Hj hr I h ae hc he) da rfl) (by decide) (by decide) rfl rfl) λ σ H Q ⟨c,δ,S,T,xs,ai,s,e,k⟩=>by obtain⟨x,ab,e1,e⟩:=bind_some e;obtain⟨J,rfl⟩:=bc e;refine⟨c,δ,S,T,x,ab,s,e1,λ v H1 s1=>?_⟩;cases x with
  |tup ds=>
   unfold sortSetU at J;dsimp only at J;split at J
   .rename_i C en;split at J
    .rename_i hn;cases J;obtain⟨q,vs,rfl,g1,g2⟩:=s1.st.head.tup;have af:=uD en;have tv:IK X.K H1 vs C:=wO g2 en;have l:=g2.length;have ag:Sl c ab (ds++S) σ (vs++T) H1:=s1.stk (g2.append s1.st.tail);refine⟨q,vs,C,rfl,.of (bK _ _ g1),tv,hn.1,λ m hm=>⟨m,_,C,rfl,bz,λ pr U=>?_,λ kk ah e0=>?_,λ m2 ps I es src=>?_⟩⟩
     .rcases Jx tv pr U with z|z
      .exact .inl (Rd.mono (fT hm _) z)
      .exact .inr z
     .have:=List.all_eq_true.mp hn.2 kk ah;rw[e0]at this;cases this
     .have s2:=ag.grow (fT hm (sZ X.prog X.w m (C.zip (vs.map o4)) C));obtain⟨f1,f2,f3⟩:=s2.fresh I;have s3:=s2.hide (o:= .lst (ps.map λ pr=>V.ref pr.2)) I;have rs:=s3.st.left l;rw[af]at rs;have rr:=HH λ pr U=>xm rs pr (src pr U);rw[es]at rr;exact k m2 _ _ (by rw[List.length_map,List.length_map,<- es,List.length_map]) (s3.stk (rr.append (s3.st.right l))) f1 f2 f3
    .cases J
   simp_all
  |_=>cases J
end
section
variable {prog:Program} {w:World} {A:Around} {E:Value->Shared->Prop} {s:Shared}
theorem o8{a b:Addr}{P:PySem.Fin->Shared->Prop}(hx:fu prog w s.heap x a)(hy:fu prog w s.heap y b)(h:P (.done (.ret (.bool (cK x y)))) s):
  wpAny (model prog w) A (Builtin.«tuple.__lt__» ⟨[.ref a,.ref b],[]⟩) P E s:=by
 have ah:=hy.typeIs;obtain⟨oa,xs,na,ai,_,aj,ak⟩:=hx;obtain⟨ob,ys,nb,ao,_,aq,ar⟩:=hy;show wpAny _ _ (isInstance (.ref b) (.type "tuple") >>= _) _ _ s;refine wpAny_bind (wpAny_isInstance ah isSubtype_tuple_tuple ?_);simp only[Bool.not_true,Bool.false_eq_true,if_false];refine wpAny_bind (wpAny_tupleItemsOf ai aj ?_);refine wpAny_bind (wpAny_tupleItemsOf ao aq ?_);refine wpAny_bind ?_;refine wpAny_forIn_list _
  (λ rest r s'=>r.1=none/\s'=s/\ ∃(x' y':List Int) (C I:List Value),rest=List.zip C I/\ItemsAre (intKind prog w) x' C/\ItemsAre (intKind prog w) y' I/\cK x' y'=cK x y/\decide (C.length<I.length)=decide (xs.size<ys.size))
  _ ?_ ?_ _ _ ⟨rfl,rfl,x,y,xs.toList,ys.toList,rfl,ak,ar,rfl,by simp⟩;. rintro⟨u,v⟩ rest r s' ⟨hr,rfl,x',y',C,I,hz,U,J,o,hlen⟩;cases U with
  |nil=>simp at hz
  |@cons k1 u' au aa h1 ab=>cases J with
   |nil=>simp at hz
   |@cons k2 v' av ae h2 af=>
    simp only[List.zip_cons_cons,List.cons.injEq,Prod.mk.injEq]at hz;obtain⟨⟨rfl,rfl⟩,rfl⟩:=hz;refine wpAny_bind ((intKind prog w).eqBool (a:=k1) (b:=k2) h1 h2 ?_);by_cases hk:k1=k2;. subst hk;rw[decide_eq_true rfl];refine wpAny_pure ⟨rfl,rfl,au,av,aa,ae,rfl,ab,af,?_,by simpa using hlen⟩;rw[<- o];conv=>rhs;unfold cK;rw[if_pos rfl]
    .rw[decide_eq_false hk];have hf:cK x y=decide (k1<k2):=by rw[<- o];conv=>lhs;unfold cK;rw[if_neg hk]
     rw[hf]at h;obtain⟨t1,rfl⟩:=Value.isInt_shape (show Value.isInt k1 u=true from h1);obtain⟨t2,rfl⟩:=Value.isInt_shape (show Value.isInt k2 v=true from h2);refine wpAny_bind (wpAny_rule ?_);refine wpAny_bind (PyProof.Rows.lt_int (a:=k1) (b:=k2) ?_);exact wpAny_bind (wpAny_pure (wpAny_pure (wpAny_pure h)))
 .rintro⟨r1,r2⟩ s' ⟨hr,rfl,x',y',C,I,hz,U,J,o,hlen⟩;subst hr;refine wpAny_pure ?_;have ag:decide (xs.size<ys.size)=cK x y:=by rw[<- o,<- hlen];cases U with
   |nil=>cases J with
    |nil=>rfl
    |cons _ _=>simp[cK]
   |cons _ _=>cases J with
    |nil=>simp[cK]
    |cons _ _=>simp at hz
  show P (.done (.ret (.bool (decide (xs.size<ys.size))))) s';rw[ag];exact h
theorem Cn{a b:Addr}{Q:Value->Shared->Prop}(C:A.units<cLine)(hx:fu prog w s.heap x a)(o:fu prog w s.heap y b)(h:Q (.bool (cK x y)) s):wpAny (model prog w) A (compareOp .Lt (.ref a) (.ref b)) Q E s:=
 wpAny_richCompare_same_room (op:= .Lt) hx.typeIs o.typeIs F.slot_tuple_lt (wpAny_call_entry F.slot_tuple_lt hx.typeIs F.entry_tuple_lt (o8 hx o ⟨_,rfl,(λ e=>nomatch e),h⟩) (F.args_tuple_lt_2 _ _)) C
end
section
variable {X:Cx} {a b:Expr} {fa fb:M D} {pos:Pos} {k:Nat}
noncomputable def Mz(K:PySem.W.Frag):R2:= λ v u H Q=>vE (λ i j=> .bl (decide (i<j))) v u H Q\/ ∃p q ns ms,v= .ref p/\u= .ref q/\gm K H p (ns.map V.int)/\gm K H q (ms.map V.int)/\Q (.bl (cK ns ms)) H
theorem KZ(J:X.A.units<cLine):gD X (compareOp .Lt) (Mz X.K):=by
 intro pins s σ H v w u z Q I o C h;rcases h with h|⟨p,q,ns,ms,rfl,rfl,U,h2,q⟩
 .exact nU pins s σ H v w u z Q I o C h
 .cases o;cases C;exact Cn J (j1 I U) (j1 I h2) ⟨.bl _,H,I,rfl,q⟩
noncomputable def dLtU(x y:D):Option D:=match x,y with
 | .tup xs,.tup ys=>match dN xs,dN ys with
  |some ns,some ms=>some (.bl (cK ns ms))
  |_,_=>none
 |_,_=>sv x y
theorem EA{K:PySem.W.Frag}:uF (Mz K) dLtU:= λ c o S σ T H x y v u d Q s e k=>by
 unfold dLtU at e;split at e
 .split at e
  .rename_i ns ms C I;cases e;obtain⟨p,vs,rfl,g1,g2⟩:=s.st.tail.head.tup;obtain⟨q,us,rfl,g3,J⟩:=s.st.head.tup;have U:=gj g2 C;have h2:=gj J I;subst U h2;exact .inr ⟨p,q,ns,ms,rfl,rfl,.of (bK _ _ g1),.of (bK _ _ g3),k _ _ (s.stk (.cons .mkB s.st.tail.tail))⟩
  grind
 .exact .inl (jH (λ _ _ _=> .mkB) c o S σ T H x y v u d Q s e k)
theorem de_ltU(o:cX k X.A)(C:DE X a fa)(I:DE X b fb):DE X (.Compare a [.Lt] [b] pos) (m2 dLtU fa fb):=ou (KZ (by have:=nY o;omega)) EA C I
end
end Jt.Tu
namespace L2
open PySem PySem.Spec PyProof.Rows
section
variable {X:Cx} {a b c d:Expr} {ta tb tc td:TE} {pos:Pos}
noncomputable def FT(r U r2:R2)(ta tb tc td:TE):TE:= λ σ H Q=>ta σ H λ x H1=>tb σ H1 λ y H2=>r x y H2 λ z o=> ∃k,z= .bl k/\
 (if k=true then tc σ o λ C H4=>U y C H4 λ z' I=> ∃J,z'= .bl J/\(if J=true then td σ I λ v' H6=>r2 C v' H6 Q else Q (.bl false) I)else Q (.bl false) o)
theorem yE{r r' r2:R2}(ho:gD X (compareOp op) r)(U:gD X (compareOp o) r')(aa:gD X (compareOp C) r2)(ha:PE X a ta)(hb:PE X b tb)(hc:PE X c tc)(hd:PE X d td)
  (hm:lastMarks [op,o,C] [b,c,d]=false:=by with_unfolding_all rfl):PE X (.Compare a [op,o,C] [b,c,d] pos) (FT r r' r2 ta tb tc td):=by
 intro pins s σ H Q I h;refine Compare_chain (c_ (ha pins s σ H _ I h) λ v s1 ⟨x,H1,I1,r1,q1⟩=>chain_link (c_ (hb pins s1 σ H1 _ I1 q1) λ u s2 ⟨y,H2,I2,J,q2⟩=>
  c_ (ho pins s2 σ H2 x y v u _ I2 r1 J q2) λ dd s3 ⟨z,H3,I3,r3,k,e,q3⟩=>?_)) hm;subst e;cases r3;refine wpAny_truthy_bool ?_;cases k with
 |false=>exact ite_ff ⟨.bl false,H3,I3,rfl,q3⟩
 |true=>refine ite_tt (chain_link (c_ (hc pins s3 σ H3 _ I3 q3) λ w' s4 ⟨z',H4,I4,r4,q4⟩=>c_ (U pins s4 σ H4 y z' u w' _ I4 J r4 q4) λ dd s5 ⟨z2,H5,I5,r5,k',e,q5⟩=>?_));subst e;cases r5;refine wpAny_truthy_bool ?_;cases k' with
  |false=>exact ite_ff ⟨.bl false,H5,I5,rfl,q5⟩
  |true=>exact ite_tt (chain_last (c_ (hd pins s5 σ H5 _ I5 q5) λ v' s6 ⟨z3,H6,I6,r6,q6⟩=>aa pins s6 σ H6 z' z3 w' v' Q I6 r4 r6 q6))
end
end L2
namespace Jt.Tu
open PySem Jt L2 PyProof.Rows
section
variable {X:Cx} {a b c0 d0:Expr} {fa fb fc fd:M D} {pos:Pos}
noncomputable def chn3(fa fb fc fd:M D):M D:=do
 let x<- fa
 let y<- fb
 let z<- lift (zT x y)
 match z with
 | .bl true=>do
  let w<- fc
  let o<- lift (sv y w)
  match o with
  | .bl true=>do
   let v<- fd
   lift (sv w v)
  | .bl false=>pure (.bl false)
  |_=>lift none
 | .bl false=>pure (.bl false)
 |_=>lift none
theorem de_leLtLt(ha:DE X a fa)(hb:DE X b fb)(hc:DE X c0 fc)(hd:DE X d0 fd)(hm:lastMarks [.LtE,.Lt,.Lt] [b,c0,d0]=false:=by with_unfolding_all rfl):DE X (.Compare a [.LtE,.Lt,.Lt] [b,c0,d0] pos) (chn3 fa fb fc fd):=
 dj (yE B5 nU nU ha hb hc hd hm) λ σ H Q ⟨c,δ,S,T,d,ab,s,e,k⟩=>by obtain⟨x,C,e1,e⟩:=bind_some e;obtain⟨y,I,e2,e⟩:=bind_some e;obtain⟨z,ae,e3,e⟩:=bind_some e;obtain⟨e4,rfl⟩:=bc e3;obtain⟨i,j,rfl,rfl,_,rfl⟩:=dG e4;refine⟨c,δ,S,T,.int i,C,s,e1,λ v H1 s1=>⟨c,C,.int i::S,v::T,.int j,I,s1,e2,λ u H2 s2=>?_⟩⟩;refine⟨i,j,s2.st.tail.head.int,s2.st.head.int,?_⟩;refine⟨decide (i<=j),rfl,?_⟩;cases hq:decide (i<=j)with
 |false=>rw[hq]at e;obtain⟨rfl,rfl⟩:=aZ e;exact k _ _ (s2.stk (.cons .mkB s2.st.tail.tail))
 |true=>rw[hq]at e;obtain⟨w,J,e5,e⟩:=bind_some e;obtain⟨z2,af,e6,e⟩:=bind_some e;obtain⟨e7,rfl⟩:=bc e6;obtain⟨i',o,ei,rfl,_,rfl⟩:=dG e7;cases ei;refine⟨c,I,.int j:: .int i::S,u::v::T,.int o,J,s2,e5,λ w' H4 s4=>⟨j,o,s4.st.tail.head.int,s4.st.head.int,decide (j<o),rfl,?_⟩⟩;cases U:decide (j<o)with
  |false=>rw[U]at e;obtain⟨rfl,rfl⟩:=aZ e;exact k _ _ (s4.stk (.cons .mkB s4.st.tail.tail.tail))
  |true=>rw[U]at e;obtain⟨w2,aa,e8,e⟩:=bind_some e;obtain⟨e9,rfl⟩:=bc e;obtain⟨i2,j2,ei,rfl,_,rfl⟩:=dG e9;cases ei;exact⟨c,J,.int o:: .int j:: .int i::S,w'::u::v::T,.int j2,aa,s4,e8,λ w3 H6 s6=>⟨o,j2,s6.st.tail.head.int,s6.st.head.int,k _ _ (s6.stk (.cons .mkB s6.st.tail.tail.tail.tail))⟩⟩
end
theorem kH (h:vs.length=ks.length):(pickT ks z vs).length=vs.length:=(eW ks z vs h).length_eq
theorem y0 (r:Vals vs us):Vals (pickT ks V.non vs) (pickT ks Value.none us):= by
 unfold pickT
 split
 .exact r
 .exact t9 (fun i=>jk r i) _
theorem Gx (r:Rs H ds vs):Rs H (pickT ks D.non ds) (pickT ks V.non vs):= by
 unfold pickT
 split
 .exact r
 .exact CJ (fun i=>xE r i) _
section
variable {X:Cx}
theorem rO:du X (.builtin "sorted") (λ xs H Q=> ∃p vs C,xs=[.ref p]/\(jr X.K H p vs\/gm X.K H p vs)/\IK X.K H vs C/\(∀ns∈C,ns≠[])/\C.length<64/\ ∀l,H l=none->Q (.ref l) (upd H l (.lst (pickT C V.non vs)))):=by
 intro pins s σ H xs us Q I r h;obtain⟨p,vs,C,rfl,hq,ht,ae,ah,q⟩:=h;obtain⟨u,rfl,ru⟩:=r.one;cases ru;obtain⟨hl,aa⟩:=mM ht;have fin: ∀{its:List Value},Vals vs its->(∀(A':Around)(Q':List Value->Shared->Prop)(E':Value->Shared->Prop),(∀h':Heap,(∀b o,s.heap.get? b=some o->h'.get? b=some o)->Q' its { s with heap:=h' })->wpAny (model X.prog X.w) A' (collect (.ref p)) Q' E' s)->
   wpAny (model X.prog X.w) X.A (call (.builtin "sorted") [.ref p]) (EP X pins σ Q) X.xe s:= λ{its} U hc=>by
  have af:its.length=C.length:=by rw[<- U.length,hl]
  have tu:sE X.prog X.w s.heap C its:=⟨af,λ i k e=>by
   have hi:i<vs.length:=by rw[hl];exact(List.getElem?_eq_some_iff.mp e).1
   have rr:=jk U i;rw[(aa i hi).1]at rr;have ab:i<its.length:=by omega
   refine⟨o4 (vs.getD i .non),?_,?_⟩
   .rw[List.getElem?_eq_getElem ab];have:its.getD i Value.none=its[i]:=by simp[ab]
    rw[this]at rr;exact congrArg some rr
   .have:=j1 I (aa i hi).2;grind⟩;refine oy (Ok:= λ ks ws=>ks=C/\ws=its) (λ A' Q' E' _ J=>hc A' Q' E' λ h' k=>J its C h' s.toks s.drawn ⟨rfl,rfl⟩ (by omega) ae (tu.keeps λ b o e _=>k b o e) k) λ h1 h' tk d ks ws e ag hlen k k2 hg=>?_;obtain⟨rfl,rfl⟩:=ag;have I1:Inv X pins σ H { s with heap:=h1,toks:=tk,drawn:=d }:=Inv.kd I k;refine⟨.ref h1.objs.size,_,I1.laid (t':=tk) (o:= .lst (pickT ks V.non vs)) k2 (Nat.le_refl _) ⟨?_,pickT ks Value.none ws,e,y0 U,hg⟩,rfl,q _ (I1.hok.fresh (Nat.le_refl _))⟩;rw[kH hl,sizeLine_eq];omega
 rcases hq with hq|hq
 .obtain⟨its,U,pl,hz⟩:=I.list hq;obtain⟨o,ho,hc,n,hd⟩:=pl.isList;exact fin U λ A' Q' E' J=>wpAny_collect_seq p (.inl rfl) ho hc hd (λ h' k=>J h' k) (by rw[List.size_toArray,<- U.length];exact hz)
 .obtain⟨its,U,⟨o,ho,hc,n,hd⟩,hz⟩:=I.tuple hq;exact fin U λ A' Q' E' J=>wpAny_collect_seq p (.inr rfl) ho hc hd (λ h' k=>J h' k) (by rw[List.size_toArray,<- U.length];exact hz)
end
noncomputable def sortU(xs:List D):Option (List D):=match iq xs with
 |some o=>if o.length<64/\o.all (λ ns=> !ns.isEmpty)=true then some (pickT o D.non xs)else none
 |none=>none
section
variable {X:Cx} {e:Expr} {fq:M (List D)} {p pos:Pos}
theorem df_sortedU(hm:X.mg "sorted"=none)(h:DQ X e fq)(hg:Gl X "sorted":=by rfl)(he:starEach [e] X.env=[(false,eval e X.env)]:=by rfl):DF X (.Call (.Name "sorted" p) [e] [] pos) (mQ sortU fq):=
 dj (fo rO hg hm PyProof.Rows.boot_sorted (bu h da he) (by decide) (by decide) he rfl) λ σ H Q ⟨c,δ,S,T,xs,ab,s,e,k⟩=>by
  obtain⟨ds,J,e1,e⟩:=bind_some e;obtain⟨I,rfl⟩:=bc e;refine⟨c,δ,S,T,ds,J,s,e1,λ q vs H1 l hq s1=>?_⟩;unfold sortU at I;split at I
  .rename_i C en;split at I
   .rename_i hn;cases I;have tv:=wO (K:=X.K) (s1.st.left l) en;have U:=(mM tv).1;refine⟨q,vs,C,rfl,hq,tv,λ ns aa e0=>?_,hn.1,λ m hm=>?_⟩;. have:=List.all_eq_true.mp hn.2 ns aa;rw[e0]at this;cases this
    obtain⟨f1,f2,f3⟩:=s1.fresh hm;have s2:=s1.hide (o:= .lst (pickT C V.non vs)) hm;have hd:ds.length=C.length:=by rw[<- U];exact l.symm
    exact k m _ _ (by rw[kH U,kH hd,U,hd]) (s2.stk ((Gx (s2.st.left l)).append (s2.st.right l))) f1 f2 f3
   .cases I
  grind
end
end Jt.Tu
namespace K23
open PySem L2 Jt
noncomputable def top (i:Nat):Stmt:=PySem.Challenge.pw_jointrees_k23_weights_and_ways.main.body.getD i (.Pass ⟨0,0,0,0⟩)
structure Bi (mg:Str->Option Value):Prop where
 all:mg "all" = none
 bool:mg "bool" = none
 divmod:mg "divmod" = none
 enumerate:mg "enumerate" = none
 int:mg "int" = none
 isinstance:mg "isinstance" = none
 len:mg "len" = none
 list:mg "list" = none
 max:mg "max" = none
 min:mg "min" = none
 range:mg "range" = none
 set:mg "set" = none
 sorted:mg "sorted" = none
 sum:mg "sum" = none
 tuple:mg "tuple" = none
 zip:mg "zip" = none
section
variable {P:Program} {w:World} {K:PySem.W.Frag} {mg:Str->Option Value} {base:Heap}
noncomputable abbrev Cu:Stmt:=top 36
noncomputable abbrev xA:List Str:=["_law_script","_law_k"]
theorem JK:bf xA ["_law_script","_law_k"] (aW Cu):=⟨rfl,rfl,rfl,by decide +kernel,rfl,by decide +kernel,by decide +kernel⟩
noncomputable def oh:M Fl :=
 (br (eY (m2 sv (aV 1) (mC cj (aR (aV 0) (pure []))) >>= dD) (do let d <- (m2 dq (aV 0) (aV 1));pure (Fl.rt d)) (pure .nx))
  (do let d <- (m2 dY (m2 oQ (pure (.int 6151)) (aV 1)) (pure (.int 29)));pure (Fl.rt d)))
variable (P w K mg base) in
noncomputable abbrev i4 (k:Nat):Prop:=Kn P w K mg base dF k "_law_cell" ["_law_script","_law_k"] (iW 2 (bg xA oh))
theorem I0 {k:Nat} (E:Ent K mg "_law_cell" ["_law_script","_law_k"] Cu) (m:Bi mg):i4 P w K mg base (k + 1) :=
 lJ E JK fun _ cdv A outer s H E hr=>
  (aX (cM (Oa (aQ 1) (cC m.len (aO (aQ 0) aU))) (a_ (bw (bt (aQ 0) (aQ 1)))) bQ)
  (a_ (bw (dA (rb aY (aQ 1)) aY))))
noncomputable abbrev Dp:Stmt:=top 37
noncomputable abbrev uj:List Str:=["_law_cell_here","_law_k","_law_number"]
theorem wH:bf uj ["_law_cell_here","_law_k"] (aW Dp):=⟨rfl,rfl,rfl,by decide +kernel,rfl,by decide +kernel,by decide +kernel⟩
noncomputable def pZ:M Fl :=
 (br (eB 2 (m2 dY (m2 oQ (m2 dY (aV 0) (pure (.int 1))) (pure (.int 40692))) (m2 oQ (pure (.int 104729)) (aV 1))))
  (br (eB 2 (m2 dY (m2 s_ (m2 qo (aV 2) (aV 2)) (pure (.int 2147483399))) (aV 1)))
  (do let d <- (m2 s_ (m2 qo (aV 2) (m2 dY (aV 2) (pure (.int 31)))) (pure (.int 2147483563)));pure (Fl.rt d))))
variable (P w K mg base) in
noncomputable abbrev jD (k:Nat):Prop:=Kn P w K mg base dF k "_law_mix" ["_law_cell_here","_law_k"] (iW 2 (bg uj pZ))
theorem Jf {k:Nat} (E:Ent K mg "_law_mix" ["_law_cell_here","_law_k"] Dp):jD P w K mg base (k + 1) :=
 lJ E wH fun _ cdv A outer s H E hr=>
  (aX (bR 2 wH.nd (dA (rb (dA (aQ 0) aY) aY) (rb aY (aQ 1))))
  (aX (bR 2 wH.nd (dA (se (yq (aQ 2) (aQ 2)) aY) (aQ 1)))
  (a_ (bw (se (yq (aQ 2) (dA (aQ 2) aY)) aY)))))
noncomputable abbrev Ae:Stmt:=top 38
noncomputable abbrev vd:List Str:=["_law_script","_law_k","_law_here","_law_number","_law_j"]
theorem nC:bf vd ["_law_script","_law_k"] (aW Ae):=⟨rfl,rfl,rfl,by decide +kernel,rfl,by decide +kernel,by decide +kernel⟩
noncomputable def pH:M Fl :=
 (br (eB 2 (mC (bh 2 (bg xA oh)) (aR (aV 0) (aR (aV 1) (pure [])))))
  (br (eY (m2 (cQ false) (m2 s_ (aV 2) (pure (.int 2))) (pure (.int 0)) >>= dD) (do let d <- (dW (aR (m2 Lr (aV 2) (pure (.int 2))) (pure [])));pure (Fl.rf d)) (pure .nx))
  (br (eB 3 (pure (.int 0)))
  (br (
  do let it <- (mC dz (aR (pure (.int 24)) (pure [])));forM (bT 4) (eB 3 (m2 dY (m2 oQ (aV 3) (pure (.int 2147483647))) (mC (bh 2 (bg uj pZ)) (aR (aV 2) (aR (aV 4) (pure [])))))) it.2 it.1)
  (do let d <- (dW (aR (aV 3) (pure [])));pure (Fl.rf d))))))
variable (P w K mg base) in
noncomputable abbrev jE (k:Nat):Prop:=Kn P w K mg base dF k "_law_box" ["_law_script","_law_k"] (L7 2 (jU vd pH))
theorem Jg {k:Nat} (E:Ent K mg "_law_box" ["_law_script","_law_k"] Ae) (m:Bi mg) (G_q14:i4 P w K mg base k) (G_q30:jD P w K mg base k):jE P w K mg base (k + 1) :=
 Qf E nC fun _ cdv A outer s H E hr=>
  (aX (bR 2 nC.nd (bo G_q14 hr (aO (aQ 0) (aO (aQ 1) aU))))
  (aX (cM (i3 (se (aQ 2) aY) aY) (a_ (qO (cF (aO (LK (aQ 2) aY) aU)))) bQ)
  (aX (bR 3 nC.nd aY)
  (aX (d4 (bZ rfl m.range (aO aY aU)) (ba 4 nC.nd) (a_ (bR 3 nC.nd (dA (rb (aQ 3) aY) (bo G_q30 hr (aO (aQ 2) (aO (aQ 4) aU)))))))
  (a_ (qO (cF (aO (aQ 3) aU))))))))
noncomputable abbrev Du:Stmt:=top 39
noncomputable abbrev de:List Str:=["_law_box_here","_law_many","_law_left","_law_digit"]
theorem vn:bf de ["_law_box_here","_law_many"] (aW Du):=⟨rfl,rfl,rfl,by decide +kernel,rfl,by decide +kernel,by decide +kernel⟩
noncomputable def cZ:M Fl :=
 (br (do let d <- (mC jT (aR (yL 0 (pure (.int 0))) (aR (aV 1) (pure []))));(fQ 2 (cN (bT 2) (cN (bT 3) gQ))) d;pure Fl.nx)
  (br (rH 0 (aV 2) 0)
  (do let d <- (aV 3);pure (Fl.rt d))))
variable (P w K mg base) in
noncomputable abbrev cW (k:Nat):Prop:=Kn P w K mg base dF k "_law_take" ["_law_box_here","_law_many"] (CY 2 (cz de cZ))
theorem LG {k:Nat} (E:Ent K mg "_law_take" ["_law_box_here","_law_many"] Du) (m:Bi mg):cW P w K mg base (k + 1) :=
 JR E vn fun _ cdv A outer s H E hr=>
  (aX (DU (yN m.divmod (aO (BL 0 aY) (aO (aQ 1) aU))) (gz (cg (ba 2 vn.nd) (cg (ba 3 vn.nd) e_))))
  (aX (Bl 0 (aQ 2))
  (a_ (bw (aQ 3)))))
noncomputable abbrev Jk:Stmt:=top 42
noncomputable abbrev oU:List Str:=["_law_box_here","_law_many","_law_size"]
theorem B_:bf oU ["_law_box_here","_law_many"] (aW Jk):=⟨rfl,rfl,rfl,by decide +kernel,rfl,by decide +kernel,by decide +kernel⟩
noncomputable def AH:M Fl :=
 (br (eY (vj (m2 (cQ false) (aV 1) (pure (.int 3)) >>= dD) (m2 (cQ false) (do let _ <- bO 0;dg 0 2 (cz de cZ) (aR (pure (.int 2)) (pure []))) (pure (.int 0)) >>= dD)) (br (eB 2 (m2 dY (pure (.int 3)) (do let _ <- bO 0;dg 0 2 (cz de cZ) (aR (m2 f_ (mC kD (aR (pure (.int 6)) (aR (aV 1) (pure [])))) (pure (.int 2))) (pure [])))))
  (do let d <- (do let xs <- (bB 3 1 (mC dz (aR (aV 2) (pure []))) (bF (bT 3) (pure true) (mC dQ (aR (do let xs <- (bB 4 1 (mC dz (aR (aV 2) (pure []))) (bF (bT 4) ((m2 (f9 true) (aV 4) (aV 3)) >>= dD) (aV 4)));pure (D.lst xs)) (pure [])))));pure (D.lst xs));pure (Fl.rt d))) (pure .nx))
  (br (eB 2 (m2 dY (pure (.int 4)) (do let _ <- bO 0;dg 0 2 (cz de cZ) (aR (m2 f_ (mC kD (aR (pure (.int 6)) (aR (aV 1) (pure [])))) (pure (.int 3))) (pure [])))))
  (do let d <- (do let xs <- (bB 3 1 (mC dz (aR (aV 2) (pure []))) (bF (bT 3) (pure true) (mC dQ (aR (do let xs <- (mQ sortI (do let x <- (do let xs <- (dW (aR (aV 3) (aR (m2 s_ (m2 dY (aV 3) (pure (.int 1))) (aV 2)) (pure []))));pure (D.lst xs));lift (lP x)));pure (D.lst xs)) (pure [])))));pure (D.lst xs));pure (Fl.rt d))))
variable (P w K mg base) in
noncomputable abbrev gx (k:Nat):Prop:=Kn P w K mg base dF k "_law_barred" ["_law_box_here","_law_many"] (CY 2 (cz oU AH))
theorem Mh {k:Nat} (E:Ent K mg "_law_barred" ["_law_box_here","_law_many"] Jk) (m:Bi mg) (G_q18:cW P w K mg base k):gx P w K mg base (k + 1) :=
 JR E B_ fun _ cdv A outer s H E hr=>
  (aX (cM (lB (j_ (i3 (aQ 1) aY) (iX (i3 (bx 0 G_q18 hr (aO aY aU)) aY)))) (aX (bR 2 B_.nd (dA aY (bx 0 G_q18 hr (aO (fB (rG m.min (aO aY (aO (aQ 1) aU))) aY) aU))))
  (a_ (bw (bp (b_ (N':=oU) (own:=["_law_lack"]) (lo:=3) (cJ (bZ rfl m.range (aO (aQ 2) aU))) (fun _ _ _ _=>(ba 3 (show (oU ++ (["_law_lack"]:List Str):List Str).Nodup by decide +kernel))) (fun _ _ _ _=>cu) (fun _ _ _ _=>(eF m.tuple (aO (bp (b_ (N':=(oU ++ (["_law_lack"]:List Str))) (own:=["_law_column"]) (lo:=4) (cJ (bZ rfl m.range (aO (aQ 2) aU))) (fun _ _ _ _=>(ba 4 (show ((oU ++ (["_law_lack"]:List Str)) ++ (["_law_column"]:List Str):List Str).Nodup by decide +kernel))) (fun _ _ _ _=>eJ (jV hr (aQ 4) (aQ 3))) (fun _ _ _ _=>(aQ 4)))) aU)))))))) bQ)
  (aX (bR 2 B_.nd (dA aY (bx 0 G_q18 hr (aO (fB (rG m.min (aO aY (aO (aQ 1) aU))) aY) aU))))
  (a_ (bw (bp (b_ (N':=oU) (own:=["_law_column"]) (lo:=3) (cJ (bZ rfl m.range (aO (aQ 2) aU))) (fun _ _ _ _=>(ba 3 (show (oU ++ (["_law_column"]:List Str):List Str).Nodup by decide +kernel))) (fun _ _ _ _=>cu) (fun _ _ _ _=>(eF m.tuple (aO (bp (kx m.sorted (xI (bp (cF (aO (aQ 3) (aO (se (dA (aQ 3) aY) (aQ 2)) aU))))))) aU)))))))))
noncomputable abbrev Dq:Stmt:=top 43
noncomputable abbrev gP:List Str:=["_law_box_here","_law_many","_law_heads","_law_left","_law_names","_law_rows","_law_found"]
theorem oE:bf gP ["_law_box_here","_law_many","_law_heads"] (aW Dq):=⟨rfl,rfl,rfl,by decide +kernel,rfl,by decide +kernel,by decide +kernel⟩
noncomputable def lz:M Fl :=
 (br (wx 3 (mC iB (aR (aV 1) (pure []))))
  (br (eB 4 (do let xs <- (bB 7 1 (mC dz (aR (aV 1) (pure []))) (bF (bT 7) (pure true) (uY 3 (aR (do let _ <- bO 0;dg 0 2 (cz de cZ) (aR (jx 3) (pure []))) (pure [])))));pure (D.lst xs)))
  (br (wx 5 (bB 7 1 (do let x <- (aV 2);lift (bH x)) (bF (bT 7) (pure true) (mC dQ (aR (do let xs <- (mQ sortI (do let x <- (do let xs <- (bB 8 1 (do let x <- (aV 7);lift (bH x)) (bF (bT 8) (pure true) (m2 dq (aV 4) (aV 8))));pure (D.lst xs));lift (lP x)));pure (D.lst xs)) (pure []))))))
  (br (wx 6 (dW (pure [])))
  (br (H_ ((y3 (Mw true) (CP 5) (do let x <- (do let xs <- (dW (pure []));pure (D.lst xs));pure (Hn.th x))) >>= dD) (gi 6 (aR (uY 5 (aR (do let _ <- bO 0;dg 0 2 (cz de cZ) (aR (jx 5) (pure []))) (pure []))) (pure []))) 7)
  (do let d <- (do let xs <- bO 6;pure (D.tup xs));pure (Fl.rt d)))))))
variable (P w K mg base) in
noncomputable abbrev gV (k:Nat):Prop:=Kn P w K mg base dF k "_law_named" ["_law_box_here","_law_many","_law_heads"] (CY 3 (cz gP lz))
theorem J5 {k:Nat} (E:Ent K mg "_law_named" ["_law_box_here","_law_many","_law_heads"] Dq) (m:Bi mg) (G_q18:cW P w K mg base k):gV P w K mg base (k + 1) :=
 JR E oE fun _ cdv A outer s H E hr=>
  (aX (jc 3 oE.nd (nF m.list m.range (aO (aQ 1) aU)))
  (aX (bR 4 oE.nd (bp (b_ (N':=gP) (own:=["_law_turn"]) (lo:=7) (cJ (bZ rfl m.range (aO (aQ 1) aU))) (fun _ _ _ _=>(ba 7 (show (gP ++ (["_law_turn"]:List Str):List Str).Nodup by decide +kernel))) (fun _ _ _ _=>cu) (fun _ _ _ _=>(wB 3 (aO (bx 0 G_q18 hr (aO (j8 3 m.len) aU)) aU))))))
  (aX (FW 5 oE.nd (N':=gP) (own:=["_law_head_here"]) (lo:=7) (cJ (cG (aQ 2))) (fun _ _ _ _=>(ba 7 (show (gP ++ (["_law_head_here"]:List Str):List Str).Nodup by decide +kernel))) (fun _ _ _ _=>cu) (fun _ _ _ _=>(eF m.tuple (aO (bp (kx m.sorted (xI (bp (b_ (N':=(gP ++ (["_law_head_here"]:List Str))) (own:=["_law_column"]) (lo:=8) (cJ (cG (aQ 7))) (fun _ _ _ _=>(ba 8 (show ((gP ++ (["_law_head_here"]:List Str)) ++ (["_law_column"]:List Str):List Str).Nodup by decide +kernel))) (fun _ _ _ _=>cu) (fun _ _ _ _=>(bt (aQ 4) (aQ 8)))))))) aU))))
  (aX (jc 6 oE.nd (cF aU))
  (aX (Dm 7 (Kz hr (K9 5) (jS (bp (cF aU)))) (a_ (kN 6 (aO (wB 5 (aO (bx 0 G_q18 hr (aO (j8 5 m.len) aU)) aU)) aU))))
  (a_ (bw (yW 6 m.tuple))))))))
noncomputable abbrev B3:Stmt:=top 40
noncomputable abbrev j3:List Str:=["_law_box_here","_law_many","_law_some"]
theorem wA:bf j3 ["_law_box_here","_law_many"] (aW B3):=⟨rfl,rfl,rfl,by decide +kernel,rfl,by decide +kernel,by decide +kernel⟩
noncomputable def k_:M Fl :=
 (br (eB 2 (do let xs <- (bB 3 1 (mC dz (aR (aV 1) (pure []))) (bF (bT 3) (m2 (cQ false) (do let _ <- bO 0;dg 0 2 (cz de cZ) (aR (pure (.int 3)) (pure []))) (pure (.int 0)) >>= dD) (aV 3)));pure (D.lst xs)))
  (br (eY ((m2 (f9 false) (aV 2) (do let xs <- (dW (pure []));pure (D.lst xs))) >>= dD) (eB 2 (do let xs <- (dW (aR (do let _ <- bO 0;dg 0 2 (cz de cZ) (aR (aV 1) (pure []))) (pure [])));pure (D.lst xs))) (pure .nx))
  (do let d <- (mC dQ (aR (aV 2) (pure [])));pure (Fl.rt d))))
variable (P w K mg base) in
noncomputable abbrev gc (k:Nat):Prop:=Kn P w K mg base dF k "_law_head" ["_law_box_here","_law_many"] (CY 2 (cz j3 k_))
theorem Kp {k:Nat} (E:Ent K mg "_law_head" ["_law_box_here","_law_many"] B3) (m:Bi mg) (G_q18:cW P w K mg base k):gc P w K mg base (k + 1) :=
 JR E wA fun _ cdv A outer s H E hr=>
  (aX (iV 2 wA.nd (N':=j3) (own:=["_law_column"]) (lo:=3) (cJ (bZ rfl m.range (aO (aQ 1) aU))) (fun _ _ _ _=>(ba 3 (show (j3 ++ (["_law_column"]:List Str):List Str).Nodup by decide +kernel))) (fun _ _ _ _=>eJ (i3 (bx 0 G_q18 hr (aO aY aU)) aY)) (fun _ _ _ _=>(aQ 3)))
  (aX (cM (mr hr (aQ 2) (bp (cF aU))) (a_ (bR 2 wA.nd (bp (cF (aO (bx 0 G_q18 hr (aO (aQ 1) aU)) aU))))) bQ)
  (a_ (bw (eF m.tuple (aO (aQ 2) aU))))))
noncomputable abbrev Jq:Stmt:=top 41
noncomputable abbrev oO:List Str:=["_law_box_here","_law_many","_law_heads","_law_found","_law_turn","_law_way_here","_law_base","_law_kept","_law_met","_law_fresh","_law_head_here"]
theorem ju:bf oO ["_law_box_here","_law_many","_law_heads"] (aW Jq):=⟨rfl,rfl,rfl,by decide +kernel,rfl,by decide +kernel,by decide +kernel⟩
noncomputable def Bu:M Fl :=
 (br (wx 3 (dW (aR (do let _ <- bO 0;dg 0 2 (cz j3 k_) (aR (aV 1) (pure []))) (pure []))))
  (br (
  do let it <- (mC dz (aR (m2 f_ (aV 2) (pure (.int 1))) (pure [])));forM (bT 4) (br (eB 5 (do let _ <- bO 0;dg 0 2 (cz de cZ) (aR (pure (.int 4)) (pure []))))
  (br (eB 6 (yL 3 (m2 dq (do let xs <- (dW (aR (m2 f_ (jx 3) (pure (.int 1))) (aR (do let _ <- bO 0;dg 0 2 (cz de cZ) (aR (jx 3) (pure []))) (pure []))));pure (D.lst xs)) (mC tP (aR (m2 yO (aV 5) (pure (.int 1))) (pure []))))))
  (br (eB 7 (do let xs <- (bB 11 1 (do let x <- (aV 6);lift (bH x)) (bF (bT 11) (m2 yO (do let _ <- bO 0;dg 0 2 (cz de cZ) (aR (pure (.int 3)) (pure []))) (pure (.int 0)) >>= dD) (aV 11)));pure (D.lst xs)))
  (br (eB 8 (do let xs <- (bB 11 1 (mC dz (aR (aV 1) (pure []))) (bF (bT 11) ((m2 (f9 true) (do let xs <- (bB 12 1 (do let xs <- bO 3;pure (dE 3 xs.length)) (bF (bT 12) (m2 (kq false) (aV 11) (aV 12) >>= dD) (aV 12)));pure (D.lst xs)) (do let xs <- (dW (pure []));pure (D.lst xs))) >>= dD) (aV 11)));pure (D.lst xs)))
  (br (eB 9 (do let xs <- (bB 11 1 (mC dz (aR (aV 1) (pure []))) (bF (bT 11) (qL (m2 (kq true) (aV 11) (aV 8) >>= dD) (m2 (cQ false) (do let _ <- bO 0;dg 0 2 (cz de cZ) (aR (pure (.int 2)) (pure []))) (pure (.int 0)) >>= dD)) (aV 11)));pure (D.lst xs)))
  (br (eB 10 (do let xs <- (mQ sortI (do let x <- (do let xs <- (y3 uw (do let x <- (aV 7);pure (Hn.th x)) (do let x <- (aV 9);pure (Hn.th x)));pure (D.lst xs));lift (lP x)));pure (D.lst xs)))
  (br (eY ((m2 (f9 false) (aV 10) (do let xs <- (dW (pure []));pure (D.lst xs))) >>= dD) (eB 10 (do let xs <- (dW (aR (m2 dq (aV 6) (do let _ <- bO 0;dg 0 2 (cz de cZ) (aR (mC cj (aR (aV 6) (pure []))) (pure [])))) (pure [])));pure (D.lst xs))) (pure .nx))
  (gi 3 (aR (mC dQ (aR (aV 10) (pure []))) (pure [])))))))))) it.2 it.1)
  (do let d <- (do let xs <- (kX 3);pure (D.lst xs));pure (Fl.rt d))))
variable (P w K mg base) in
noncomputable abbrev gX (k:Nat):Prop:=Kn P w K mg base dF k "_law_grown" ["_law_box_here","_law_many","_law_heads"] (CY 3 (cz oO Bu))
theorem Nv {k:Nat} (E:Ent K mg "_law_grown" ["_law_box_here","_law_many","_law_heads"] Jq) (m:Bi mg) (G_q22:gc P w K mg base k) (G_q18:cW P w K mg base k):gX P w K mg base (k + 1) :=
 JR E ju fun _ cdv A outer s H E hr=>
  (aX (jc 3 ju.nd (cF (aO (bx 0 G_q22 hr (aO (aQ 1) aU)) aU)))
  (aX (d4 (bZ rfl m.range (aO (fB (aQ 2) aY) aU)) (ba 4 ju.nd) (aX (bR 5 ju.nd (bx 0 G_q18 hr (aO aY aU)))
  (aX (bR 6 ju.nd (BL 3 (bt (bp (cF (aO (fB (j8 3 m.len) aY) (aO (bx 0 G_q18 hr (aO (j8 3 m.len) aU)) aU)))) (xo m.int (aO (Mc (aQ 5) aY) aU)))))
  (aX (iV 7 ju.nd (N':=oO) (own:=["_law_column"]) (lo:=11) (cJ (cG (aQ 6))) (fun _ _ _ _=>(ba 11 (show (oO ++ (["_law_column"]:List Str):List Str).Nodup by decide +kernel))) (fun _ _ _ _=>eJ (Iz (bx 0 G_q18 hr (aO aY aU)) aY)) (fun _ _ _ _=>(aQ 11)))
  (aX (bR 8 ju.nd (bp (b_ (N':=oO) (own:=["_law_column"]) (lo:=11) (cJ (bZ rfl m.range (aO (aQ 1) aU))) (fun _ _ _ _=>(ba 11 (show (oO ++ (["_law_column"]:List Str):List Str).Nodup by decide +kernel))) (fun _ _ _ _=>eJ (jV hr (bp (b_ (N':=(["_law_box_here","_law_many","_law_heads","_law_found","_law_turn","_law_way_here","_law_base","_law_kept","_law_met","_law_fresh","?10","_law_column"]:List Str)) (own:=["_law_head_here"]) (lo:=12) (K6 3) (fun _ _ _ _=>(ba 12 (show ((["_law_box_here","_law_many","_law_heads","_law_found","_law_turn","_law_way_here","_law_base","_law_kept","_law_met","_law_fresh","?10","_law_column"]:List Str) ++ (["_law_head_here"]:List Str):List Str).Nodup by decide +kernel))) (fun _ _ _ _=>eJ (j4 (aQ 11) (aQ 12))) (fun _ _ _ _=>(aQ 12)))) (bp (cF aU)))) (fun _ _ _ _=>(aQ 11)))))
  (aX (iV 9 ju.nd (N':=oO) (own:=["_law_column"]) (lo:=11) (cJ (bZ rfl m.range (aO (aQ 1) aU))) (fun _ _ _ _=>(ba 11 (show (oO ++ (["_law_column"]:List Str):List Str).Nodup by decide +kernel))) (fun _ _ _ _=>eJ (lB (nK (oz (aQ 11) (aQ 8)) (l8 (i3 (bx 0 G_q18 hr (aO aY aU)) aY))))) (fun _ _ _ _=>(aQ 11)))
  (aX (bR 10 ju.nd (bp (kx m.sorted (xI (bp (qH (jS (aQ 7)) (jS (aQ 9))))))))
  (aX (cM (mr hr (aQ 10) (bp (cF aU))) (a_ (bR 10 ju.nd (bp (cF (aO (bt (aQ 6) (bx 0 G_q18 hr (aO (cC m.len (aO (aQ 6) aU)) aU))) aU))))) bQ)
  (a_ (kN 3 (aO (eF m.tuple (aO (aQ 10) aU)) aU)))))))))))
  (a_ (bw (bp (Ag 3))))))
noncomputable abbrev KI:Stmt:=top 44
noncomputable abbrev ub:List Str:=["_law_box_here","_law_most","_law_heads","_law_many","_law_number","_law_way_here","_law_some","_law_extra"]
theorem qr:bf ub ["_law_box_here","_law_most","_law_heads"] (aW KI):=⟨rfl,rfl,rfl,by decide +kernel,rfl,by decide +kernel,by decide +kernel⟩
noncomputable def B2:M Fl :=
 (br (eB 3 (m2 dY (pure (.int 1)) (do let _ <- bO 0;dg 0 2 (cz de cZ) (aR (aV 1) (pure [])))))
  (br (eB 4 (m2 dY (pure (.int 1)) (do let _ <- bO 0;dg 0 2 (cz de cZ) (aR (aV 2) (pure [])))))
  (br (eB 5 (do let _ <- bO 0;dg 0 2 (cz de cZ) (aR (pure (.int 5)) (pure []))))
  (br (eY (qL (m2 (cQ false) (aV 5) (pure (.int 0)) >>= dD) (m2 yO (aV 3) (pure (.int 2)) >>= dD)) (br (eB 6 (do let _ <- bO 0;dg 0 2 (cz oU AH) (aR (aV 3) (pure []))))
  (br (eB 7 (do let xs <- (bB 8 1 (mC dz (aR (do let _ <- bO 0;dg 0 2 (cz de cZ) (aR (m2 dY (pure (.int 1)) (mC jq (aR (pure (.int 0)) (aR (m2 f_ (aV 2) (mC cj (aR (aV 6) (pure [])))) (pure []))))) (pure []))) (pure []))) (bF (bT 8) (pure true) (do let _ <- bO 0;dg 0 2 (cz j3 k_) (aR (aV 3) (pure [])))));pure (D.lst xs)))
  (do let d <- (dm (aR (aV 3) (aR (do let _ <- bO 0;dg 0 3 (cz gP lz) (aR (aV 3) (aR (Jo (do let xs <- (y3 uw (do let x <- (aV 6);pure (Hn.th x)) (do let x <- (aV 7);pure (Hn.th x)));pure (D.lst xs)) (pure none) ((pure (.int 6)) >>= Ju)) (pure [])))) (pure []))));pure (Fl.rt d)))) (pure .nx))
  (br (eY (m2 (cQ false) (aV 5) (pure (.int 1)) >>= dD) (do let d <- (dm (aR (aV 3) (aR (do let _ <- bO 0;dg 0 3 (cz gP lz) (aR (aV 3) (aR (do let xs <- (bB 8 1 (mC dz (aR (aV 4) (pure []))) (bF (bT 8) (pure true) (do let _ <- bO 0;dg 0 2 (cz j3 k_) (aR (aV 3) (pure [])))));pure (D.lst xs)) (pure [])))) (pure []))));pure (Fl.rt d)) (pure .nx))
  (do let d <- (dm (aR (aV 3) (aR (do let _ <- bO 0;dg 0 3 (cz gP lz) (aR (aV 3) (aR (do let _ <- bO 0;dg 0 3 (cz oO Bu) (aR (aV 3) (aR (aV 4) (pure [])))) (pure [])))) (pure []))));pure (Fl.rt d)))))))
variable (P w K mg base) in
noncomputable abbrev gy (k:Nat):Prop:=Kn P w K mg base dF k "_law_layout" ["_law_box_here","_law_most","_law_heads"] (CY 3 (cz ub B2))
theorem Md {k:Nat} (E:Ent K mg "_law_layout" ["_law_box_here","_law_most","_law_heads"] KI) (m:Bi mg) (G_q4:gx P w K mg base k) (G_q9:gX P w K mg base k) (G_q22:gc P w K mg base k) (G_q11:gV P w K mg base k) (G_q18:cW P w K mg base k):gy P w K mg base (k + 1) :=
 JR E qr fun _ cdv A outer s H E hr=>
  (aX (bR 3 qr.nd (dA aY (bx 0 G_q18 hr (aO (aQ 1) aU))))
  (aX (bR 4 qr.nd (dA aY (bx 0 G_q18 hr (aO (aQ 2) aU))))
  (aX (bR 5 qr.nd (bx 0 G_q18 hr (aO aY aU)))
  (aX (cM (lB (nK (i3 (aQ 5) aY) (l8 (Iz (aQ 3) aY)))) (aX (bR 6 qr.nd (bx 0 G_q4 hr (aO (aQ 3) aU)))
  (aX (iV 7 qr.nd (N':=ub) (own:=["_law_turn"]) (lo:=8) (cJ (bZ rfl m.range (aO (bx 0 G_q18 hr (aO (dA aY (nz m.max (aO aY (aO (fB (aQ 2) (cC m.len (aO (aQ 6) aU))) aU)))) aU)) aU))) (fun _ _ _ _=>(ba 8 (show (ub ++ (["_law_turn"]:List Str):List Str).Nodup by decide +kernel))) (fun _ _ _ _=>cu) (fun _ _ _ _=>(bx 0 G_q22 hr (aO (aQ 3) aU))))
  (a_ (bw (cc (aO (aQ 3) (aO (bx 0 G_q11 hr (aO (aQ 3) (aO (nZ (bp (qH (jS (aQ 6)) (jS (aQ 7)))) sD (rj aY)) aU))) aU))))))) bQ)
  (aX (cM (i3 (aQ 5) aY) (a_ (bw (cc (aO (aQ 3) (aO (bx 0 G_q11 hr (aO (aQ 3) (aO (bp (b_ (N':=ub) (own:=["_law_turn"]) (lo:=8) (cJ (bZ rfl m.range (aO (aQ 4) aU))) (fun _ _ _ _=>(ba 8 (show (ub ++ (["_law_turn"]:List Str):List Str).Nodup by decide +kernel))) (fun _ _ _ _=>cu) (fun _ _ _ _=>(bx 0 G_q22 hr (aO (aQ 3) aU))))) aU))) aU))))) bQ)
  (a_ (bw (cc (aO (aQ 3) (aO (bx 0 G_q11 hr (aO (aQ 3) (aO (bx 0 G_q9 hr (aO (aQ 3) (aO (aQ 4) aU))) aU))) aU))))))))))
noncomputable abbrev A5:Stmt:=top 49
noncomputable abbrev xx:List Str:=["_law_box_here","_law_some"]
theorem vz:bf xx ["_law_box_here"] (aW A5):=⟨rfl,rfl,rfl,by decide +kernel,rfl,by decide +kernel,by decide +kernel⟩
noncomputable def tN:M Fl :=
 (br (eB 1 (do let xs <- (dW (aR (pure .non) (aR (pure (.bl true)) (aR (pure (.bl false)) (aR (m1 lG (pure (.int 1))) (aR (pure (.int 0)) (aR (pure (.int 1)) (aR (pure (.int 7)) (aR (pure (.int 10)) (aR (pure (.str "")) (aR (pure (.str "0")) (aR (pure (.str "none")) (aR (dm (pure [])) (aR (dm (aR (pure (.int 0)) (pure []))) (aR (dm (aR (pure (.int 0)) (aR (pure (.int 1)) (pure [])))) (aR (dm (aR (pure (.int 1)) (aR (pure (.int 0)) (pure [])))) (aR (dm (aR (pure (.int 0)) (aR (pure (.int 0)) (pure [])))) (aR (dm (aR (pure (.int 0)) (aR (pure (.bl true)) (pure [])))) (aR (do let xs <- (dW (aR (pure (.int 0)) (pure [])));pure (D.lst xs)) (aR (pure .dct) (pure [])))))))))))))))))))));pure (D.lst xs)))
  (br (eB 1 (do let xs <- (y3 uw (do let x <- (aV 1);pure (Hn.th x)) (do let x <- (do let xs <- (dW (aR (dm (aR (dm (aR (pure (.int 0)) (pure []))) (pure []))) (aR (dm (aR (dm (aR (pure (.int 0)) (aR (pure (.int 1)) (pure [])))) (pure []))) (aR (do let xs <- (dW (aR (dm (aR (pure (.int 0)) (aR (pure (.int 1)) (pure [])))) (pure [])));pure (D.lst xs)) (aR (m2 De (pure (.int 10)) (pure (.int 39))) (aR (dm (aR (pure (.int 0)) (aR (pure (.int 10)) (pure [])))) (aR (dm (aR (pure (.int 0)) (aR (m1 lG (pure (.int 1))) (pure [])))) (aR (dm (aR (dm (pure [])) (aR (dm (pure [])) (pure [])))) (aR (dm (aR (dm (aR (pure (.int 0)) (aR (pure (.int 1)) (pure [])))) (aR (dm (aR (pure (.int 0)) (aR (pure (.int 1)) (pure [])))) (pure [])))) (aR (dm (aR (dm (aR (pure (.int 0)) (aR (pure (.int 1)) (pure [])))) (aR (pure .non) (pure [])))) (pure [])))))))))));pure (D.lst xs));pure (Hn.th x)));pure (D.lst xs)))
  (do let d <- (m2 dq (aV 1) (do let _ <- bO 0;dg 0 2 (cz de cZ) (aR (mC cj (aR (aV 1) (pure []))) (pure []))));pure (Fl.rt d))))
variable (P w K mg base) in
noncomputable abbrev jy (k:Nat):Prop:=Kn P w K mg base dF k "_law_odd" ["_law_box_here"] (CY 1 (cz xx tN))
theorem Jv {k:Nat} (E:Ent K mg "_law_odd" ["_law_box_here"] A5) (m:Bi mg) (G_q18:cW P w K mg base k):jy P w K mg base (k + 1) :=
 JR E vz fun _ cdv A outer s H E hr=>
  (by
  refine aX ?_ ?_;(focus exact (by show qe _ (Stmt.Assign [Expr.Name _ _] (Expr.List _ _) _) (eB 1 _);refine x_ 1 _ _ _ _ _ ?_ ?_ ?_ ?_ ?_ ?_;(focus exact vz.nd);(focus exact rfl);(focus first | exact Or.inl rfl | exact Or.inr rfl);(focus first | exact .inl rfl | exact .inr rfl);(focus exact FZ);show DE _ (Expr.List _ _) _;refine bp ?_;refine cF ?_;exact (by refine o5 ?_ ?_;(focus exact kC);refine o5 ?_ ?_;(focus exact eK);refine o5 ?_ ?_;(focus exact eK);refine PX ?_ ?_;(focus exact (gR aY));refine o5 ?_ ?_;(focus exact aY);refine o5 ?_ ?_;(focus exact aY);refine o5 ?_ ?_;(focus exact aY);refine o5 ?_ ?_;(focus exact aY);refine o5 ?_ ?_;(focus exact fV);refine o5 ?_ ?_;(focus exact fV);refine o5 ?_ ?_;(focus exact fV);refine kR ?_ ?_;(focus exact (cc aU));refine kR ?_ ?_;(focus exact (cc (aO aY aU)));refine kR ?_ ?_;(focus exact (cc (aO aY (aO aY aU))));refine kR ?_ ?_;(focus exact (cc (aO aY (aO aY aU))));refine kR ?_ ?_;(focus exact (cc (aO aY (aO aY aU))));refine kR ?_ ?_;(focus exact (cc (aO aY (aO eK aU))));refine NJ ?_ ?_;(focus exact (bp (cF (aO aY aU))));refine P1 ?_ ?_;(focus exact BG);exact aU)));exact (by
  refine aX ?_ ?_;(focus exact (by refine x_ 1 _ _ _ _ _ ?_ ?_ ?_ ?_ ?_ ?_;(focus exact vz.nd);(focus exact rfl);(focus first | exact Or.inl rfl | exact Or.inr rfl);(focus first | exact .inl rfl | exact .inr rfl);(focus exact rfl);refine bp ?_;refine qH ?_ ?_;(focus exact (jS (aQ 1)));refine jS ?_;refine bp ?_;refine cF ?_;refine kR ?_ ?_;(focus exact (cc (aO (cc (aO aY aU)) aU)));refine kR ?_ ?_;(focus exact (cc (aO (cc (aO aY (aO aY aU))) aU)));refine NJ ?_ ?_;(focus exact (bp (cF (aO (cc (aO aY (aO aY aU))) aU))));refine aO ?_ ?_;(focus exact (JZ aY aY));refine kR ?_ ?_;(focus exact (cc (aO aY (aO aY aU))));refine kR ?_ ?_;(focus exact (cc (aO aY (aO (gR aY) aU))));refine kR ?_ ?_;(focus exact (cc (aO (cc aU) (aO (cc aU) aU))));refine kR ?_ ?_;(focus exact (cc (aO (cc (aO aY (aO aY aU))) (aO (cc (aO aY (aO aY aU))) aU))));refine kR ?_ ?_;(focus exact (cc (aO (cc (aO aY (aO aY aU))) (aO kC aU))));exact aU));exact (a_ (bw (bt (aQ 1) (bx 0 G_q18 hr (aO (cC m.len (aO (aQ 1) aU)) aU)))))))
noncomputable abbrev Bf:Stmt:=top 15
noncomputable abbrev xp:List Str:=["thing"]
theorem Jw:bf xp ["thing"] (aW Bf):=⟨rfl,rfl,rfl,by decide +kernel,rfl,by decide +kernel,by decide +kernel⟩
noncomputable def uX:M Fl :=
 (do let d <- (rK (kj .int (aV 0)) (AV (kj .bool (aV 0))));pure (Fl.rt d))
variable (P w K mg base) in
noncomputable abbrev jG (k:Nat):Prop:=Kn P w K mg base dF k "is_whole" ["thing"] (iW 1 (bg xp uX))
theorem Lu {k:Nat} (E:Ent K mg "is_whole" ["thing"] Bf) (m:Bi mg):jG P w K mg base (k + 1) :=
 lJ E Jw fun _ cdv A outer s H E hr=>
  (a_ (bw (kK (iZ .int m.isinstance m.int (aQ 0)) (kr (Dd (iZ .bool m.isinstance m.bool (aQ 0)))))))
noncomputable abbrev DM:Stmt:=top 16
noncomputable abbrev lu:List Str:=["thing","many"]
theorem Km:bf lu ["thing","many"] (aW DM):=⟨rfl,rfl,rfl,by decide +kernel,rfl,by decide +kernel,by decide +kernel⟩
noncomputable def ka:M Fl :=
 (do let d <- (rK (mC (bh 1 (bg xp uX)) (aR (aV 0) (pure []))) (BB zT sv (pure (.int 0)) (aV 0) (aV 1)));pure (Fl.rt d))
variable (P w K mg base) in
noncomputable abbrev eT (k:Nat):Prop:=Kn P w K mg base dF k "is_below" ["thing","many"] (iW 2 (bg lu ka))
theorem Lx {k:Nat} (E:Ent K mg "is_below" ["thing","many"] DM) (G_q28:jG P w K mg base k):eT P w K mg base (k + 1) :=
 lJ E Km fun _ cdv A outer s H E hr=>
  (a_ (bw (kK (bo G_q28 hr (aO (aQ 0) aU)) (kr (G0 aY (aQ 0) (aQ 1))))))
noncomputable abbrev BW:Stmt:=top 23
noncomputable abbrev oA:List Str:=["layout","column","many","heads"]
theorem v_:bf oA ["layout","column"] (aW BW):=⟨rfl,rfl,rfl,by decide +kernel,rfl,by decide +kernel,by decide +kernel⟩
noncomputable def xt:M Fl :=
 (br (do let d <- (aV 0);(fQ 2 (cN (bT 2) (cN (bT 3) gQ))) d;pure Fl.nx)
  (br (eY (fC (do let x <- (mC (bh 2 (bg lu ka)) (aR (aV 1) (aR (aV 2) (pure []))));lift (eL x))) never (pure .nx))
  (do let d <- (mC dQ (aR (do let xs <- (bB 4 2 (mC qQ (aR (aV 3) (pure []))) (bF (fQ 2 (cN (bT 4) (cN (bT 5) gQ))) (m2 (kq false) (aV 1) (aV 5) >>= dD) (aV 4)));pure (D.lst xs)) (pure [])));pure (Fl.rt d))))
variable (P w K mg base) in
noncomputable abbrev ib (k:Nat):Prop:=Kn P w K mg base dF k "heads_of" ["layout","column"] (iW 2 (bg oA xt))
theorem Je {k:Nat} (E:Ent K mg "heads_of" ["layout","column"] BW) (m:Bi mg) (G_q32:eT P w K mg base k):ib P w K mg base (k + 1) :=
 lJ E v_ fun _ cdv A outer s H E hr=>
  (aX (DU (aQ 0) (gz (cg (ba 2 v_.nd) (cg (ba 3 v_.nd) e_))))
  (aX (cM (dR (cP (bo G_q32 hr (aO (aQ 1) (aO (aQ 2) aU))))) (a_ mI) bQ)
  (a_ (bw (eF m.tuple (aO (bp (b_ (N':=oA) (own:=["number","head"]) (lo:=4) (cJ (G6 m.enumerate (aO (aQ 3) aU))) (fun _ _ _ _=>(gz (cg (ba 4 (show (oA ++ (["number","head"]:List Str):List Str).Nodup by decide +kernel)) (cg (ba 5 (show (oA ++ (["number","head"]:List Str):List Str).Nodup by decide +kernel)) e_)))) (fun _ _ _ _=>eJ (j4 (aQ 1) (aQ 5))) (fun _ _ _ _=>(aQ 4)))) aU))))))
noncomputable abbrev Ao:Stmt:=top 31
noncomputable abbrev qj:List Str:=["layout"]
theorem Ku:bf qj ["layout"] (aW Ao):=⟨rfl,rfl,rfl,by decide +kernel,rfl,by decide +kernel,by decide +kernel⟩
noncomputable def uM:M Fl :=
 (do let d <- (mC o_ (aR (do let xs <- (bB 1 1 (mC dz (aR (m2 dq (aV 0) (pure (.int 0))) (pure []))) (bF (bT 1) (pure true) (mC jq (aR (m2 f_ (mC cj (aR (mC (bh 2 (bg oA xt)) (aR (aV 0) (aR (aV 1) (pure [])))) (pure []))) (pure (.int 1))) (aR (pure (.int 0)) (pure []))))));pure (D.lst xs)) (pure [])));pure (Fl.rt d))
variable (P w K mg base) in
noncomputable abbrev g9 (k:Nat):Prop:=Kn P w K mg base dF k "due_weight" ["layout"] (iW 1 (bg qj uM))
theorem LJ {k:Nat} (E:Ent K mg "due_weight" ["layout"] Ao) (m:Bi mg) (G_q12:ib P w K mg base k):g9 P w K mg base (k + 1) :=
 lJ E Ku fun _ cdv A outer s H E hr=>
  (a_ (bw (sH m.sum (aO (bp (b_ (N':=qj) (own:=["column"]) (lo:=1) (cJ (bZ rfl m.range (aO (bt (aQ 0) aY) aU))) (fun _ _ _ _=>(ba 1 (show (qj ++ (["column"]:List Str):List Str).Nodup by decide +kernel))) (fun _ _ _ _=>cu) (fun _ _ _ _=>(nz m.max (aO (fB (cC m.len (aO (bo G_q12 hr (aO (aQ 0) (aO (aQ 1) aU))) aU)) aY) (aO aY aU)))))) aU))))
noncomputable abbrev Cc:Stmt:=top 20
noncomputable abbrev qF:List Str:=["labels","one","other","least","most"]
theorem v5:bf qF ["labels","one","other"] (aW Cc):=⟨rfl,rfl,rfl,by decide +kernel,rfl,by decide +kernel,by decide +kernel⟩
noncomputable def uC:M Fl :=
 (br (eB 3 (mC kD (aR (m2 dq (aV 0) (aV 1)) (aR (m2 dq (aV 0) (aV 2)) (pure [])))))
  (br (eB 4 (mC jq (aR (m2 dq (aV 0) (aV 1)) (aR (m2 dq (aV 0) (aV 2)) (pure [])))))
  (do let d <- (mC dQ (aR (do let xs <- (bB 5 1 (do let x <- (aV 0);lift (bH x)) (bF (bT 5) (pure true) (eY ((m2 (f9 false) (aV 5) (aV 4)) >>= dD) (aV 3) (aV 5))));pure (D.lst xs)) (pure [])));pure (Fl.rt d))))
variable (P w K mg base) in
noncomputable abbrev n_ (k:Nat):Prop:=Kn P w K mg base dF k "linked" ["labels","one","other"] (iW 3 (bg qF uC))
theorem IW {k:Nat} (E:Ent K mg "linked" ["labels","one","other"] Cc) (m:Bi mg):n_ P w K mg base (k + 1) :=
 lJ E v5 fun _ cdv A outer s H E hr=>
  (aX (bR 3 v5.nd (rG m.min (aO (bt (aQ 0) (aQ 1)) (aO (bt (aQ 0) (aQ 2)) aU))))
  (aX (bR 4 v5.nd (nz m.max (aO (bt (aQ 0) (aQ 1)) (aO (bt (aQ 0) (aQ 2)) aU))))
  (a_ (bw (eF m.tuple (aO (bp (b_ (N':=qF) (own:=["label"]) (lo:=5) (cJ (cG (aQ 0))) (fun _ _ _ _=>(ba 5 (show (qF ++ (["label"]:List Str):List Str).Nodup by decide +kernel))) (fun _ _ _ _=>cu) (fun _ _ _ _=>(N2 (mr hr (aQ 5) (aQ 4)) (aQ 3) (aQ 5))))) aU))))))
noncomputable abbrev Jz:Stmt:=top 27
noncomputable abbrev Dc:List Str:=["many","pairs","labels","one","other"]
theorem tJ:bf Dc ["many","pairs"] (aW Jz):=⟨rfl,rfl,rfl,by decide +kernel,rfl,by decide +kernel,by decide +kernel⟩
noncomputable def yV:M Fl :=
 (br (eB 2 (do let xs <- mC iB (aR (aV 0) (pure []));pure (D.tup xs)))
  (br (
  do let it <- (do let x <- (aV 1);lift (bH x));forM (fQ 2 (cN (bT 3) (cN (bT 4) gQ))) (br (eY ((m2 (f9 false) (m2 dq (aV 2) (aV 3)) (m2 dq (aV 2) (aV 4))) >>= dD) (do let d <- (pure (.bl false));pure (Fl.rt d)) (pure .nx))
  (eB 2 (mC (bh 3 (bg qF uC)) (aR (aV 2) (aR (aV 3) (aR (aV 4) (pure []))))))) it.2 it.1)
  (do let d <- (pure (.bl true));pure (Fl.rt d))))
variable (P w K mg base) in
noncomputable abbrev gB (k:Nat):Prop:=Kn P w K mg base dF k "has_no_ring" ["many","pairs"] (iW 2 (bg Dc yV))
theorem Ng {k:Nat} (E:Ent K mg "has_no_ring" ["many","pairs"] Jz) (m:Bi mg) (G_q37:n_ P w K mg base k):gB P w K mg base (k + 1) :=
 lJ E tJ fun _ cdv A outer s H E hr=>
  (aX (bR 2 tJ.nd (yT m.tuple m.range (aO (aQ 0) aU)))
  (aX (d4 (cG (aQ 1)) (gz (cg (ba 3 tJ.nd) (cg (ba 4 tJ.nd) e_))) (aX (cM (mr hr (bt (aQ 2) (aQ 3)) (bt (aQ 2) (aQ 4))) (a_ (bw eK)) bQ)
  (a_ (bR 2 tJ.nd (bo G_q37 hr (aO (aQ 2) (aO (aQ 3) (aO (aQ 4) aU))))))))
  (a_ (bw eK))))
noncomputable abbrev BZ:Stmt:=top 19
noncomputable abbrev mW:List Str:=["things"]
theorem Ji:bf mW ["things"] (aW BZ):=⟨rfl,rfl,rfl,by decide +kernel,rfl,by decide +kernel,by decide +kernel⟩
noncomputable def u_:M Fl :=
 (do let d <- (mC jn (aR (do let xs <- (bB 1 2 (mC rp (aR (aV 0) (aR (Jo (aV 0) ((pure (.int 1)) >>= Ju) (pure none)) (pure [])))) (bF (fQ 2 (cN (bT 1) (cN (bT 2) gQ))) (pure true) (m2 Jt.Tu.dLtU (aV 1) (aV 2))));pure (D.lst xs)) (pure [])));pure (Fl.rt d))
variable (P w K mg base) in
noncomputable abbrev iL (k:Nat):Prop:=Kn P w K mg base dF k "is_rising" ["things"] (iW 1 (bg mW u_))
theorem LR {k:Nat} (E:Ent K mg "is_rising" ["things"] BZ) (m:Bi mg):iL P w K mg base (k + 1) :=
 lJ E Ji fun _ cdv A outer s H E hr=>
  (a_ (bw (mE m.all (aO (bp (b_ (N':=mW) (own:=["one","other"]) (lo:=1) (cJ (Lk m.zip (aO (aQ 0) (aO (nZ (aQ 0) (rj aY) sD) aU)))) (fun _ _ _ _=>(gz (cg (ba 1 (show (mW ++ (["one","other"]:List Str):List Str).Nodup by decide +kernel)) (cg (ba 2 (show (mW ++ (["one","other"]:List Str):List Str).Nodup by decide +kernel)) e_)))) (fun _ _ _ _=>cu) (fun _ _ _ _=>(Jt.Tu.de_ltU hr (aQ 1) (aQ 2))))) aU))))
noncomputable abbrev AI:Stmt:=top 17
noncomputable abbrev p_:List Str:=["thing","many"]
theorem KQ:bf p_ ["thing","many"] (aW AI):=⟨rfl,rfl,rfl,by decide +kernel,rfl,by decide +kernel,by decide +kernel⟩
noncomputable def ug:M Fl :=
 (do let d <- (rK (kj .tup (aV 0)) (mC jn (aR (do let xs <- (bB 2 1 (do let x <- (aV 0);lift (bH x)) (bF (bT 2) (pure true) (mC (bh 2 (bg lu ka)) (aR (aV 2) (aR (aV 1) (pure []))))));pure (D.lst xs)) (pure []))));pure (Fl.rt d))
variable (P w K mg base) in
noncomputable abbrev iw (k:Nat):Prop:=Kn P w K mg base dF k "are_below" ["thing","many"] (iW 2 (bg p_ ug))
theorem K8 {k:Nat} (E:Ent K mg "are_below" ["thing","many"] AI) (m:Bi mg) (G_q32:eT P w K mg base k):iw P w K mg base (k + 1) :=
 lJ E KQ fun _ cdv A outer s H E hr=>
  (a_ (bw (kK (iZ .tup m.isinstance m.tuple (aQ 0)) (kr (mE m.all (aO (bp (b_ (N':=p_) (own:=["part"]) (lo:=2) (cJ (cG (aQ 0))) (fun _ _ _ _=>(ba 2 (show (p_ ++ (["part"]:List Str):List Str).Nodup by decide +kernel))) (fun _ _ _ _=>cu) (fun _ _ _ _=>(bo G_q32 hr (aO (aQ 2) (aO (aQ 1) aU)))))) aU))))))
noncomputable abbrev JX:Stmt:=top 18
noncomputable abbrev Ho:List Str:=["thing","many"]
theorem Oj:bf Ho ["thing","many"] (aW JX):=⟨rfl,rfl,rfl,by decide +kernel,rfl,by decide +kernel,by decide +kernel⟩
noncomputable def Ax:M Fl :=
 (do let d <- (rK (mC (bh 2 (bg p_ ug)) (aR (aV 0) (aR (aV 1) (pure [])))) (m2 (cQ false) (mC cj (aR (aV 0) (pure []))) (pure (.int 2))));pure (Fl.rt d))
variable (P w K mg base) in
noncomputable abbrev fM (k:Nat):Prop:=Kn P w K mg base dF k "is_two_below" ["thing","many"] (iW 2 (bg Ho Ax))
theorem N7 {k:Nat} (E:Ent K mg "is_two_below" ["thing","many"] JX) (m:Bi mg) (G_q19:iw P w K mg base k):fM P w K mg base (k + 1) :=
 lJ E Oj fun _ cdv A outer s H E hr=>
  (a_ (bw (kK (bo G_q19 hr (aO (aQ 0) (aO (aQ 1) aU))) (kr (Bt (cC m.len (aO (aQ 0) aU)) aY)))))
noncomputable abbrev Cq:Stmt:=top 26
noncomputable abbrev pW:List Str:=["layout","thing"]
theorem KH:bf pW ["layout","thing"] (aW Cq):=⟨rfl,rfl,rfl,by decide +kernel,rfl,by decide +kernel,by decide +kernel⟩
noncomputable def nD:M Fl :=
 (do let d <- (rK (mC (bh 2 (bg Ho Ax)) (aR (aV 1) (aR (mC cj (aR (m2 dq (aV 0) (pure (.int 1))) (pure []))) (pure [])))) (m2 sv (m2 dq (aV 1) (pure (.int 0))) (m2 dq (aV 1) (pure (.int 1)))));pure (Fl.rt d))
variable (P w K mg base) in
noncomputable abbrev kA (k:Nat):Prop:=Kn P w K mg base dF k "is_pair" ["layout","thing"] (iW 2 (bg pW nD))
theorem JS {k:Nat} (E:Ent K mg "is_pair" ["layout","thing"] Cq) (m:Bi mg) (G_q2:fM P w K mg base k):kA P w K mg base (k + 1) :=
 lJ E KH fun _ cdv A outer s H E hr=>
  (a_ (bw (kK (bo G_q2 hr (aO (aQ 1) (aO (cC m.len (aO (bt (aQ 0) aY) aU)) aU))) (kr (NZ (bt (aQ 1) aY) (bt (aQ 1) aY))))))
noncomputable abbrev Aj:Stmt:=top 28
noncomputable abbrev eS:List Str:=["layout","thing","many"]
theorem Ba:bf eS ["layout","thing"] (aW Aj):=⟨rfl,rfl,rfl,by decide +kernel,rfl,by decide +kernel,by decide +kernel⟩
noncomputable def dk:M Fl :=
 (br (eB 2 (mC cj (aR (m2 dq (aV 0) (pure (.int 1))) (pure []))))
  (br (eY (vj (fC (do let x <- (kj .tup (aV 1));lift (eL x))) (m2 (cQ true) (mC cj (aR (aV 1) (pure []))) (m2 f_ (aV 2) (pure (.int 1))) >>= dD)) (do let d <- (pure (.bl false));pure (Fl.rt d)) (pure .nx))
  (br (eY (vj (fC (do let x <- (mC jn (aR (do let xs <- (bB 3 1 (do let x <- (aV 1);lift (bH x)) (bF (bT 3) (pure true) (mC (bh 2 (bg pW nD)) (aR (aV 0) (aR (aV 3) (pure []))))));pure (D.lst xs)) (pure [])));lift (eL x))) (fC (do let x <- (mC (bh 1 (bg mW u_)) (aR (aV 1) (pure [])));lift (eL x)))) (do let d <- (pure (.bl false));pure (Fl.rt d)) (pure .nx))
  (do let d <- (mC (bh 2 (bg Dc yV)) (aR (aV 2) (aR (aV 1) (pure []))));pure (Fl.rt d)))))
variable (P w K mg base) in
noncomputable abbrev je (k:Nat):Prop:=Kn P w K mg base dF k "is_tree" ["layout","thing"] (iW 2 (bg eS dk))
theorem JD {k:Nat} (E:Ent K mg "is_tree" ["layout","thing"] Aj) (m:Bi mg) (G_q6:gB P w K mg base k) (G_q34:kA P w K mg base k) (G_q21:iL P w K mg base k):je P w K mg base (k + 1) :=
 lJ E Ba fun _ cdv A outer s H E hr=>
  (aX (bR 2 Ba.nd (cC m.len (aO (bt (aQ 0) aY) aU)))
  (aX (cM (lB (j_ (dR (cP (iZ .tup m.isinstance m.tuple (aQ 1)))) (iX (rT (cC m.len (aO (aQ 1) aU)) (fB (aQ 2) aY))))) (a_ (bw eK)) bQ)
  (aX (cM (lB (j_ (dR (cP (mE m.all (aO (bp (b_ (N':=eS) (own:=["pair"]) (lo:=3) (cJ (cG (aQ 1))) (fun _ _ _ _=>(ba 3 (show (eS ++ (["pair"]:List Str):List Str).Nodup by decide +kernel))) (fun _ _ _ _=>cu) (fun _ _ _ _=>(bo G_q34 hr (aO (aQ 0) (aO (aQ 3) aU)))))) aU)))) (iX (dR (cP (bo G_q21 hr (aO (aQ 1) aU))))))) (a_ (bw eK)) bQ)
  (a_ (bw (bo G_q6 hr (aO (aQ 2) (aO (aQ 1) aU))))))))
noncomputable abbrev JA:Stmt:=top 29
noncomputable abbrev Bp:List Str:=["layout","thing"]
theorem Mu:bf Bp ["layout","thing"] (aW JA):=⟨rfl,rfl,rfl,by decide +kernel,rfl,by decide +kernel,by decide +kernel⟩
noncomputable def Ah:M Fl :=
 (eY (fC (do let x <- (mC (bh 2 (bg eS dk)) (aR (aV 0) (aR (aV 1) (pure []))));lift (eL x))) never (pure .nx))
variable (P w K mg base) in
noncomputable abbrev ff (k:Nat):Prop:=Kn P w K mg base dF k "need_tree" ["layout","thing"] (iW 2 (bg Bp Ah))
theorem Mj {k:Nat} (E:Ent K mg "need_tree" ["layout","thing"] JA) (G_q33:je P w K mg base k):ff P w K mg base (k + 1) :=
 lJ E Mu fun _ cdv A outer s H E hr=>
  (a_ (cM (dR (cP (bo G_q33 hr (aO (aQ 0) (aO (aQ 1) aU))))) (a_ mI) bQ))
noncomputable abbrev Kg:Stmt:=top 22
noncomputable abbrev wG:List Str:=["layout","thing"]
theorem M_:bf wG ["layout","thing"] (aW Kg):=⟨rfl,rfl,rfl,by decide +kernel,rfl,by decide +kernel,by decide +kernel⟩
noncomputable def v9:M Fl :=
 (eY (fC (do let x <- (mC (bh 2 (bg lu ka)) (aR (aV 1) (aR (mC cj (aR (m2 dq (aV 0) (pure (.int 1))) (pure []))) (pure []))));lift (eL x))) never (pure .nx))
variable (P w K mg base) in
noncomputable abbrev fk (k:Nat):Prop:=Kn P w K mg base dF k "need_head" ["layout","thing"] (iW 2 (bg wG v9))
theorem MB {k:Nat} (E:Ent K mg "need_head" ["layout","thing"] Kg) (m:Bi mg) (G_q32:eT P w K mg base k):fk P w K mg base (k + 1) :=
 lJ E M_ fun _ cdv A outer s H E hr=>
  (a_ (cM (dR (cP (bo G_q32 hr (aO (aQ 1) (aO (cC m.len (aO (bt (aQ 0) aY) aU)) aU))))) (a_ mI) bQ))
noncomputable abbrev Aa:Stmt:=top 24
noncomputable abbrev oG:List Str:=["layout","one","other","heads"]
theorem C_:bf oG ["layout","one","other"] (aW Aa):=⟨rfl,rfl,rfl,by decide +kernel,rfl,by decide +kernel,by decide +kernel⟩
noncomputable def vb:M Fl :=
 (br (do let _ <- (mC (bh 2 (bg wG v9)) (aR (aV 0) (aR (aV 1) (pure []))));pure Fl.nx)
  (br (do let _ <- (mC (bh 2 (bg wG v9)) (aR (aV 0) (aR (aV 2) (pure []))));pure Fl.nx)
  (br (eB 3 (m2 dq (aV 0) (pure (.int 1))))
  (do let d <- (mC dQ (aR (do let xs <- (bB 4 1 (do let x <- (m2 dq (aV 3) (aV 1));lift (bH x)) (bF (bT 4) (m2 (kq false) (aV 4) (m2 dq (aV 3) (aV 2)) >>= dD) (aV 4)));pure (D.lst xs)) (pure [])));pure (Fl.rt d)))))
variable (P w K mg base) in
noncomputable abbrev ia (k:Nat):Prop:=Kn P w K mg base dF k "common" ["layout","one","other"] (iW 3 (bg oG vb))
theorem K0 {k:Nat} (E:Ent K mg "common" ["layout","one","other"] Aa) (m:Bi mg) (G_q3:fk P w K mg base k):ia P w K mg base (k + 1) :=
 lJ E C_ fun _ cdv A outer s H E hr=>
  (aX (jl (bo G_q3 hr (aO (aQ 0) (aO (aQ 1) aU))))
  (aX (jl (bo G_q3 hr (aO (aQ 0) (aO (aQ 2) aU))))
  (aX (bR 3 C_.nd (bt (aQ 0) aY))
  (a_ (bw (eF m.tuple (aO (bp (b_ (N':=oG) (own:=["column"]) (lo:=4) (cJ (cG (bt (aQ 3) (aQ 1)))) (fun _ _ _ _=>(ba 4 (show (oG ++ (["column"]:List Str):List Str).Nodup by decide +kernel))) (fun _ _ _ _=>eJ (j4 (aQ 4) (bt (aQ 3) (aQ 2)))) (fun _ _ _ _=>(aQ 4)))) aU)))))))
noncomputable abbrev Jc:Stmt:=top 30
noncomputable abbrev uH:List Str:=["layout","tree"]
theorem M7:bf uH ["layout","tree"] (aW Jc):=⟨rfl,rfl,rfl,by decide +kernel,rfl,by decide +kernel,by decide +kernel⟩
noncomputable def DX:M Fl :=
 (br (do let _ <- (mC (bh 2 (bg Bp Ah)) (aR (aV 0) (aR (aV 1) (pure []))));pure Fl.nx)
  (do let d <- (mC o_ (aR (do let xs <- (bB 2 2 (do let x <- (aV 1);lift (bH x)) (bF (fQ 2 (cN (bT 2) (cN (bT 3) gQ))) (pure true) (mC cj (aR (mC (bh 3 (bg oG vb)) (aR (aV 0) (aR (aV 2) (aR (aV 3) (pure []))))) (pure [])))));pure (D.lst xs)) (pure [])));pure (Fl.rt d)))
variable (P w K mg base) in
noncomputable abbrev gw (k:Nat):Prop:=Kn P w K mg base dF k "weight_of" ["layout","tree"] (iW 2 (bg uH DX))
theorem MJ {k:Nat} (E:Ent K mg "weight_of" ["layout","tree"] Jc) (m:Bi mg) (G_q26:ia P w K mg base k) (G_q7:ff P w K mg base k):gw P w K mg base (k + 1) :=
 lJ E M7 fun _ cdv A outer s H E hr=>
  (aX (jl (bo G_q7 hr (aO (aQ 0) (aO (aQ 1) aU))))
  (a_ (bw (sH m.sum (aO (bp (b_ (N':=uH) (own:=["one","other"]) (lo:=2) (cJ (cG (aQ 1))) (fun _ _ _ _=>(gz (cg (ba 2 (show (uH ++ (["one","other"]:List Str):List Str).Nodup by decide +kernel)) (cg (ba 3 (show (uH ++ (["one","other"]:List Str):List Str).Nodup by decide +kernel)) e_)))) (fun _ _ _ _=>cu) (fun _ _ _ _=>(cC m.len (aO (bo G_q26 hr (aO (aQ 0) (aO (aQ 2) (aO (aQ 3) aU)))) aU))))) aU)))))
noncomputable abbrev BH:Stmt:=top 45
noncomputable abbrev mm:List Str:=["_law_found"]
theorem Ka:bf mm ["_law_found"] (aW BH):=⟨rfl,rfl,rfl,by decide +kernel,rfl,by decide +kernel,by decide +kernel⟩
noncomputable def kY:M Fl :=
 (do let d <- (rK (kj .int (aV 0)) (AV (kj .bool (aV 0))));pure (Fl.rt d))
variable (P w K mg base) in
noncomputable abbrev fI (k:Nat):Prop:=Kn P w K mg base dF k "_law_whole" ["_law_found"] (iW 1 (bg mm kY))
theorem JT {k:Nat} (E:Ent K mg "_law_whole" ["_law_found"] BH) (m:Bi mg):fI P w K mg base (k + 1) :=
 lJ E Ka fun _ cdv A outer s H E hr=>
  (a_ (bw (kK (iZ .int m.isinstance m.int (aQ 0)) (kr (Dd (iZ .bool m.isinstance m.bool (aQ 0)))))))
noncomputable abbrev Aq:Stmt:=top 46
noncomputable abbrev xy:List Str:=["_law_pairs","_law_some","_law_found","_law_turn","_law_one","_law_other"]
theorem kL:bf xy ["_law_pairs","_law_some"] (aW Aq):=⟨rfl,rfl,rfl,by decide +kernel,rfl,by decide +kernel,by decide +kernel⟩
noncomputable def tm:M Fl :=
 (br (eY ((m2 (f9 false) (aV 1) (do let xs <- (dW (pure []));pure (D.lst xs))) >>= dD) (do let d <- (pure (.bl true));pure (Fl.rt d)) (pure .nx))
  (br (eB 2 (Jo (aV 1) (pure none) ((pure (.int 1)) >>= Ju)))
  (br (
  do let it <- (mC dz (aR (mC cj (aR (aV 1) (pure []))) (pure [])));forM (bT 3) (
  do let it <- (do let x <- (aV 0);lift (bH x));forM (fQ 2 (cN (bT 4) (cN (bT 5) gQ))) (eY (qL ((m2 (f9 true) (m2 (kq false) (aV 4) (aV 2)) (m2 (kq false) (aV 5) (aV 2))) >>= dD) (qL (m2 (kq false) (aV 4) (aV 1) >>= dD) (m2 (kq false) (aV 5) (aV 1) >>= dD))) (eB 2 (do let xs <- (y3 uw (do let x <- (aV 2);pure (Hn.th x)) (do let x <- (do let xs <- (dW (aR (m2 dq (do let xs <- (dW (aR (aV 4) (aR (aV 5) (pure []))));pure (D.lst xs)) (mC tP (aR (m2 (kq false) (aV 4) (aV 2)) (pure [])))) (pure [])));pure (D.lst xs));pure (Hn.th x)));pure (D.lst xs))) (pure .nx)) it.2 it.1) it.2 it.1)
  (do let d <- (m2 (cQ false) (mC cj (aR (aV 2) (pure []))) (mC cj (aR (aV 1) (pure []))));pure (Fl.rt d)))))
variable (P w K mg base) in
noncomputable abbrev iA (k:Nat):Prop:=Kn P w K mg base dF k "_law_hang" ["_law_pairs","_law_some"] (iW 2 (bg xy tm))
theorem Ke {k:Nat} (E:Ent K mg "_law_hang" ["_law_pairs","_law_some"] Aq) (m:Bi mg):iA P w K mg base (k + 1) :=
 lJ E kL fun _ cdv A outer s H E hr=>
  (aX (cM (mr hr (aQ 1) (bp (cF aU))) (a_ (bw eK)) bQ)
  (aX (bR 2 kL.nd (nZ (aQ 1) sD (rj aY)))
  (aX (d4 (bZ rfl m.range (aO (cC m.len (aO (aQ 1) aU)) aU)) (ba 3 kL.nd) (a_ (d4 (cG (aQ 0)) (gz (cg (ba 4 kL.nd) (cg (ba 5 kL.nd) e_))) (a_ (cM (lB (nK (jV hr (BK (aQ 4) (aQ 2)) (BK (aQ 5) (aQ 2))) (nK (j4 (aQ 4) (aQ 1)) (l8 (j4 (aQ 5) (aQ 1)))))) (a_ (bR 2 kL.nd (bp (qH (jS (aQ 2)) (jS (bp (cF (aO (bt (bp (cF (aO (aQ 4) (aO (aQ 5) aU)))) (xo m.int (aO (BK (aQ 4) (aQ 2)) aU))) aU)))))))) bQ)))))
  (a_ (bw (Bt (cC m.len (aO (aQ 2) aU)) (cC m.len (aO (aQ 1) aU))))))))
noncomputable abbrev LH:Stmt:=top 47
noncomputable abbrev tG:List Str:=["_law_layout_here","_law_thing"]
theorem M9:bf tG ["_law_layout_here","_law_thing"] (aW LH):=⟨rfl,rfl,rfl,by decide +kernel,rfl,by decide +kernel,by decide +kernel⟩
noncomputable def wD:M Fl :=
 (br (eY (vj (fC (do let x <- (kj .tup (aV 1));lift (eL x))) (vj (m2 (cQ true) (mC cj (aR (aV 1) (pure []))) (pure (.int 2)) >>= dD) (fC (do let x <- (mC jn (aR (do let xs <- (bB 2 1 (do let x <- (aV 1);lift (bH x)) (bF (bT 2) (pure true) (mC (bh 1 (bg mm kY)) (aR (aV 2) (pure [])))));pure (D.lst xs)) (pure [])));lift (eL x))))) (do let d <- (pure (.bl false));pure (Fl.rt d)) (pure .nx))
  (do let d <- (Jt.Tu.chn3 (pure (.int 0)) (m2 dq (aV 1) (pure (.int 0))) (m2 dq (aV 1) (pure (.int 1))) (mC cj (aR (m2 dq (aV 0) (pure (.int 1))) (pure []))));pure (Fl.rt d)))
variable (P w K mg base) in
noncomputable abbrev fW (k:Nat):Prop:=Kn P w K mg base dF k "_law_is_pair" ["_law_layout_here","_law_thing"] (iW 2 (bg tG wD))
theorem Mr {k:Nat} (E:Ent K mg "_law_is_pair" ["_law_layout_here","_law_thing"] LH) (m:Bi mg) (G_q10:fI P w K mg base k):fW P w K mg base (k + 1) :=
 lJ E M9 fun _ cdv A outer s H E hr=>
  (aX (cM (lB (j_ (dR (cP (iZ .tup m.isinstance m.tuple (aQ 1)))) (j_ (rT (cC m.len (aO (aQ 1) aU)) aY) (iX (dR (cP (mE m.all (aO (bp (b_ (N':=tG) (own:=["_law_one"]) (lo:=2) (cJ (cG (aQ 1))) (fun _ _ _ _=>(ba 2 (show (tG ++ (["_law_one"]:List Str):List Str).Nodup by decide +kernel))) (fun _ _ _ _=>cu) (fun _ _ _ _=>(bo G_q10 hr (aO (aQ 2) aU))))) aU)))))))) (a_ (bw eK)) bQ)
  (a_ (bw (Jt.Tu.de_leLtLt aY (bt (aQ 1) aY) (bt (aQ 1) aY) (cC m.len (aO (bt (aQ 0) aY) aU))))))
noncomputable abbrev LP:Stmt:=top 48
noncomputable abbrev vW:List Str:=["_law_layout_here","_law_thing"]
theorem Oh:bf vW ["_law_layout_here","_law_thing"] (aW LP):=⟨rfl,rfl,rfl,by decide +kernel,rfl,by decide +kernel,by decide +kernel⟩
noncomputable def j7:M Fl :=
 (br (eY (vj (fC (do let x <- (kj .tup (aV 1));lift (eL x))) (m2 (cQ true) (mC cj (aR (aV 1) (pure []))) (m2 f_ (mC cj (aR (m2 dq (aV 0) (pure (.int 1))) (pure []))) (pure (.int 1))) >>= dD)) (do let d <- (pure (.bl false));pure (Fl.rt d)) (pure .nx))
  (br (eY (vj (fC (do let x <- (mC jn (aR (do let xs <- (bB 2 1 (do let x <- (aV 1);lift (bH x)) (bF (bT 2) (pure true) (mC (bh 2 (bg tG wD)) (aR (aV 0) (aR (aV 2) (pure []))))));pure (D.lst xs)) (pure [])));lift (eL x))) ((m2 (f9 true) (do let xs <- (mC dList (aR (aV 1) (pure [])));pure (D.lst xs)) (do let xs <- (do let x <- (aV 1);lift (Jt.Tu.sortSetU x));pure (D.lst xs))) >>= dD)) (do let d <- (pure (.bl false));pure (Fl.rt d)) (pure .nx))
  (do let d <- (mC (bh 2 (bg xy tm)) (aR (aV 1) (aR (do let xs <- (mC iB (aR (mC cj (aR (m2 dq (aV 0) (pure (.int 1))) (pure []))) (pure [])));pure (D.lst xs)) (pure []))));pure (Fl.rt d))))
variable (P w K mg base) in
noncomputable abbrev f6 (k:Nat):Prop:=Kn P w K mg base dF k "_law_is_tree" ["_law_layout_here","_law_thing"] (iW 2 (bg vW j7))
theorem MF {k:Nat} (E:Ent K mg "_law_is_tree" ["_law_layout_here","_law_thing"] LP) (m:Bi mg) (G_q17:iA P w K mg base k) (G_q0:fW P w K mg base k):f6 P w K mg base (k + 1) :=
 lJ E Oh fun _ cdv A outer s H E hr=>
  (aX (cM (lB (j_ (dR (cP (iZ .tup m.isinstance m.tuple (aQ 1)))) (iX (rT (cC m.len (aO (aQ 1) aU)) (fB (cC m.len (aO (bt (aQ 0) aY) aU)) aY))))) (a_ (bw eK)) bQ)
  (aX (cM (lB (j_ (dR (cP (mE m.all (aO (bp (b_ (N':=vW) (own:=["_law_pair"]) (lo:=2) (cJ (cG (aQ 1))) (fun _ _ _ _=>(ba 2 (show (vW ++ (["_law_pair"]:List Str):List Str).Nodup by decide +kernel))) (fun _ _ _ _=>cu) (fun _ _ _ _=>(bo G_q0 hr (aO (aQ 0) (aO (aQ 2) aU)))))) aU)))) (iX (jV hr (bp (Fj m.list (aO (aQ 1) aU))) (bp (Jt.Tu.df_sortedSetU hr m.sorted m.set (aQ 1))))))) (a_ (bw eK)) bQ)
  (a_ (bw (bo G_q17 hr (aO (aQ 1) (aO (bp (nF m.list m.range (aO (cC m.len (aO (bt (aQ 0) aY) aU)) aU))) aU)))))))
noncomputable abbrev AG:Stmt:=top 32
noncomputable abbrev mY:List Str:=["tree","head"]
theorem Lz:bf mY ["tree","head"] (aW AG):=⟨rfl,rfl,rfl,by decide +kernel,rfl,by decide +kernel,by decide +kernel⟩
noncomputable def uV:M Fl :=
 (do let d <- (bB 2 2 (do let x <- (aV 0);lift (bH x)) (bF (fQ 2 (cN (bT 2) (cN (bT 3) gQ))) (m2 (kq false) (aV 1) (dm (aR (aV 2) (aR (aV 3) (pure [])))) >>= dD) (m2 f_ (m2 dY (aV 2) (aV 3)) (aV 1))));pure (Fl.rf d))
variable (P w K mg base) in
noncomputable abbrev iK (k:Nat):Prop:=Kn P w K mg base dF k "beside_in" ["tree","head"] (L7 2 (jU mY uV))
theorem J2 {k:Nat} (E:Ent K mg "beside_in" ["tree","head"] AG):iK P w K mg base (k + 1) :=
 Qf E Lz fun _ cdv A outer s H E hr=>
  (a_ (qO (b_ (N':=mY) (own:=["one","other"]) (lo:=2) (cJ (cG (aQ 0))) (fun _ _ _ _=>(gz (cg (ba 2 (show (mY ++ (["one","other"]:List Str):List Str).Nodup by decide +kernel)) (cg (ba 3 (show (mY ++ (["one","other"]:List Str):List Str).Nodup by decide +kernel)) e_)))) (fun _ _ _ _=>eJ (j4 (aQ 1) (cc (aO (aQ 2) (aO (aQ 3) aU))))) (fun _ _ _ _=>(fB (dA (aQ 2) (aQ 3)) (aQ 1))))))
noncomputable abbrev CG:Stmt:=top 33
noncomputable abbrev BP:List Str:=["tree","way","goal","head","found"]
theorem wY:bf BP ["tree","way","goal"] (aW CG):=⟨rfl,rfl,rfl,by decide +kernel,rfl,by decide +kernel,by decide +kernel⟩
noncomputable def qD (rec:List D->Option D):M Fl :=
 (br (eY ((m2 (f9 false) (m2 dq (aV 1) (m1 lG (pure (.int 1)))) (aV 2)) >>= dD) (do let d <- (aV 1);pure (Fl.rt d)) (pure .nx))
  (br (
  do let it <- (do let x <- (do let xs <- (mC (bh 2 (jU mY uV)) (aR (aV 0) (aR (m2 dq (aV 1) (m1 lG (pure (.int 1)))) (pure []))));pure (D.lst xs));lift (bH x));forM (bT 3) (eY (m2 (kq true) (aV 3) (aV 1) >>= dD) (br (eB 4 (mC (bh 3 rec) (aR (aV 0) (aR (m2 mR (aV 1) (dm (aR (aV 3) (pure [])))) (aR (aV 2) (pure []))))))
  (eY (m2 (Dk true) (aV 4) (pure .non) >>= dD) (do let d <- (aV 4);pure (Fl.rt d)) (pure .nx))) (pure .nx)) it.2 it.1)
  (do let d <- (pure .non);pure (Fl.rt d))))
noncomputable def jw:Nat->List D->Option D
 | 0=>fun _=>none
 | n + 1=>bg BP (qD (jw n))
variable (P w K mg base) in
noncomputable abbrev nG (k:Nat):Prop:=Kn P w K mg base dF k "way_on" ["tree","way","goal"] (iW 3 (jw 7))
theorem A3 {k:Nat} (E:Ent K mg "way_on" ["tree","way","goal"] CG) (G_q20:iK P w K mg base k):∀ n:Nat,Kn P w K mg base dF (k + n) "way_on" ["tree","way","goal"] (iW 3 (jw n))
 | 0=>EC E
 | n + 1=>by
  have G_q36:=A3 (k:=k) E G_q20 n
  have G_q20:=G_q20.up (Nat.le_add_right k n)
  exact lJ E wY fun _ cdv A outer s H E hr=>
  (aX (cM (mr hr (bt (aQ 1) (gR aY)) (aQ 2)) (a_ (bw (aQ 1))) bQ)
  (aX (d4 (cG (bp (uA G_q20 hr (aO (aQ 0) (aO (bt (aQ 1) (gR aY)) aU))))) (ba 3 wY.nd) (a_ (cM (oz (aQ 3) (aQ 1)) (aX (bR 4 wY.nd (bo G_q36 hr (aO (aQ 0) (aO (ym (aQ 1) (cc (aO (aQ 3) aU))) (aO (aQ 2) aU)))))
  (a_ (cM (El (aQ 4) kC) (a_ (bw (aQ 4))) bQ))) bQ)))
  (a_ (bw kC))))
noncomputable abbrev AE:Stmt:=top 34
noncomputable abbrev x8:List Str:=["layout","tree","one","other"]
theorem K5:bf x8 ["layout","tree","one","other"] (aW AE):=⟨rfl,rfl,rfl,by decide +kernel,rfl,by decide +kernel,by decide +kernel⟩
noncomputable def xK:M Fl :=
 (br (do let _ <- (mC (bh 2 (bg Bp Ah)) (aR (aV 0) (aR (aV 1) (pure []))));pure Fl.nx)
  (br (do let _ <- (mC (bh 2 (bg wG v9)) (aR (aV 0) (aR (aV 2) (pure []))));pure Fl.nx)
  (br (do let _ <- (mC (bh 2 (bg wG v9)) (aR (aV 0) (aR (aV 3) (pure []))));pure Fl.nx)
  (do let d <- (mC (bh 3 (jw 7)) (aR (aV 1) (aR (dm (aR (aV 2) (pure []))) (aR (aV 3) (pure [])))));pure (Fl.rt d)))))
variable (P w K mg base) in
noncomputable abbrev jz (k:Nat):Prop:=Kn P w K mg base dF k "way_in" ["layout","tree","one","other"] (iW 4 (bg x8 xK))
theorem Kc {k:Nat} (E:Ent K mg "way_in" ["layout","tree","one","other"] AE) (G_q3:fk P w K mg base k) (G_q7:ff P w K mg base k) (G_q36:nG P w K mg base k):jz P w K mg base (k + 1) :=
 lJ E K5 fun _ cdv A outer s H E hr=>
  (aX (jl (bo G_q7 hr (aO (aQ 0) (aO (aQ 1) aU))))
  (aX (jl (bo G_q3 hr (aO (aQ 0) (aO (aQ 2) aU))))
  (aX (jl (bo G_q3 hr (aO (aQ 0) (aO (aQ 3) aU))))
  (a_ (bw (bo G_q36 hr (aO (aQ 1) (aO (cc (aO (aQ 2) aU)) (aO (aQ 3) aU)))))))))
noncomputable abbrev Ai:Stmt:=top 52
noncomputable abbrev tE:List Str:=["_law_tree","_law_one","_law_other","_law_rows","_law_turn","_law_row","_law_longer","_law_pair"]
theorem iu:bf tE ["_law_tree","_law_one","_law_other"] (aW Ai):=⟨rfl,rfl,rfl,by decide +kernel,rfl,by decide +kernel,by decide +kernel⟩
noncomputable def qz:M Fl :=
 (br (eB 3 (do let xs <- (dW (aR (dm (aR (aV 1) (pure []))) (pure [])));pure (D.lst xs)))
  (br (
  do let it <- (mC dz (aR (m2 dY (mC cj (aR (aV 0) (pure []))) (pure (.int 1))) (pure [])));forM (bT 4) (br (
  do let it <- (do let x <- (aV 3);lift (bH x));forM (bT 5) (eY ((m2 (f9 false) (m2 dq (aV 5) (m1 lG (pure (.int 1)))) (aV 2)) >>= dD) (do let d <- (aV 5);pure (Fl.rt d)) (pure .nx)) it.2 it.1)
  (br (wx 6 (dW (pure [])))
  (br (
  do let it <- (do let x <- (aV 3);lift (bH x));forM (bT 5) (
  do let it <- (do let x <- (aV 0);lift (bH x));forM (bT 7) (eY (qL (m2 (kq false) (m2 dq (aV 5) (m1 lG (pure (.int 1)))) (aV 7) >>= dD) (m2 (kq true) (m2 f_ (m2 dY (m2 dq (aV 7) (pure (.int 0))) (m2 dq (aV 7) (pure (.int 1)))) (m2 dq (aV 5) (m1 lG (pure (.int 1))))) (aV 5) >>= dD)) (gi 6 (aR (m2 mR (aV 5) (dm (aR (m2 f_ (m2 dY (m2 dq (aV 7) (pure (.int 0))) (m2 dq (aV 7) (pure (.int 1)))) (m2 dq (aV 5) (m1 lG (pure (.int 1))))) (pure [])))) (pure []))) (pure .nx)) it.2 it.1) it.2 it.1)
  (eB 3 (do let xs <- (kX 6);pure (D.lst xs)))))) it.2 it.1)
  (do let d <- (pure .non);pure (Fl.rt d))))
variable (P w K mg base) in
noncomputable abbrev jF (k:Nat):Prop:=Kn P w K mg base dF k "_law_way" ["_law_tree","_law_one","_law_other"] (iW 3 (bg tE qz))
theorem J1 {k:Nat} (E:Ent K mg "_law_way" ["_law_tree","_law_one","_law_other"] Ai) (m:Bi mg):jF P w K mg base (k + 1) :=
 lJ E iu fun _ cdv A outer s H E hr=>
  (aX (bR 3 iu.nd (bp (cF (aO (cc (aO (aQ 1) aU)) aU))))
  (aX (d4 (bZ rfl m.range (aO (dA (cC m.len (aO (aQ 0) aU)) aY) aU)) (ba 4 iu.nd) (aX (d4 (cG (aQ 3)) (ba 5 iu.nd) (a_ (cM (mr hr (bt (aQ 5) (gR aY)) (aQ 2)) (a_ (bw (aQ 5))) bQ)))
  (aX (jc 6 iu.nd (cF aU))
  (aX (d4 (cG (aQ 3)) (ba 5 iu.nd) (a_ (d4 (cG (aQ 0)) (ba 7 iu.nd) (a_ (cM (lB (nK (j4 (bt (aQ 5) (gR aY)) (aQ 7)) (l8 (oz (fB (dA (bt (aQ 7) aY) (bt (aQ 7) aY)) (bt (aQ 5) (gR aY))) (aQ 5))))) (a_ (kN 6 (aO (ym (aQ 5) (cc (aO (fB (dA (bt (aQ 7) aY) (bt (aQ 7) aY)) (bt (aQ 5) (gR aY))) aU))) aU))) bQ)))))
  (a_ (bR 3 iu.nd (bp (Ag 6))))))))
  (a_ (bw kC))))
noncomputable abbrev IJ:Stmt:=top 29
noncomputable abbrev qB:List Str:=["layout","thing"]
theorem Kx:bf qB ["layout","thing"] (aW IJ):=⟨rfl,rfl,rfl,by decide +kernel,rfl,by decide +kernel,by decide +kernel⟩
noncomputable def kb (c_NoTree:Addr):M (Fl ⊕ Addr) :=
 (fA (eY (fC (do let x <- (mC (bh 2 (bg eS dk)) (aR (aV 0) (aR (aV 1) (pure []))));lift (eL x))) (fA (nX c_NoTree (aR (pure (.str "no tree of the layout")) (pure []))) (pure (.inl .nx))) (pure (.inl .nx))) (pure (.inl .nx)))
variable (P w K mg base) in
noncomputable abbrev gk (k:Nat) (c_NoTree:Addr):Prop:=Kn P w K mg base (sV P w) k "need_tree" ["layout","thing"] (Iu 2 (eU qB (kb c_NoTree)))
theorem KD {k:Nat} {c_NoTree:Addr} (E:Ent K mg "need_tree" ["layout","thing"] IJ) (x_NoTree:mg "NoTree" = some (.ref c_NoTree)) (q_NoTree:PySem.W.excIn K c_NoTree [.type "ValueError",.type "Exception",.type "BaseException",.type "object"] "ValueError.__new__" = true) (G_q33:je P w K mg base k):gk P w K mg base (k + 1) c_NoTree :=
 Oo E Kx fun _ cdv A outer s H E hr=>
  (eC (vQ (dR (cP (bo G_q33 hr (aO (aQ 0) (aO (aQ 1) aU))))) (eC (qg PySem.F.excBase_ValueError x_NoTree q_NoTree (aO fV aU))) ml))
noncomputable abbrev Iq:Stmt:=top 30
noncomputable abbrev lj:List Str:=["layout","tree"]
theorem KL:bf lj ["layout","tree"] (aW Iq):=⟨rfl,rfl,rfl,by decide +kernel,rfl,by decide +kernel,by decide +kernel⟩
noncomputable def qA (c_NoTree:Addr):M (Fl ⊕ Addr) :=
 (fA (bX (bX (dX (pQ (aV 0)) (dX (pQ (aV 1)) (pure (.inl [])))) fun ds=>lift (if ds.length=2 then (eU qB (kb c_NoTree)) ds else none)) fun _=>pure (.inl .nx))
  (fA (pQ (do let d <- (mC o_ (aR (do let xs <- (bB 2 2 (do let x <- (aV 1);lift (bH x)) (bF (fQ 2 (cN (bT 2) (cN (bT 3) gQ))) (pure true) (mC cj (aR (mC (bh 3 (bg oG vb)) (aR (aV 0) (aR (aV 2) (aR (aV 3) (pure []))))) (pure [])))));pure (D.lst xs)) (pure [])));pure (Fl.rt d))) (pure (.inl .nx))))
variable (P w K mg base) in
noncomputable abbrev iY (k:Nat) (c_NoTree:Addr):Prop:=Kn P w K mg base (sV P w) k "weight_of" ["layout","tree"] (Iu 2 (eU lj (qA c_NoTree)))
theorem JF {k:Nat} {c_NoTree:Addr} (E:Ent K mg "weight_of" ["layout","tree"] Iq) (m:Bi mg) (G_q26:ia P w K mg base k) (G_q15:gk P w K mg base k c_NoTree):iY P w K mg base (k + 1) c_NoTree :=
 Oo E KL fun _ cdv A outer s H E hr=>
  (gK (gI (fJ G_q15 hr (cV (eE (aQ 0)) (cV (eE (aQ 1)) jf))))
  (eC (Dr (bw (sH m.sum (aO (bp (b_ (N':=lj) (own:=["one","other"]) (lo:=2) (cJ (cG (aQ 1))) (fun _ _ _ _=>(gz (cg (ba 2 (show (lj ++ (["one","other"]:List Str):List Str).Nodup by decide +kernel)) (cg (ba 3 (show (lj ++ (["one","other"]:List Str):List Str).Nodup by decide +kernel)) e_)))) (fun _ _ _ _=>cu) (fun _ _ _ _=>(cC m.len (aO (bo G_q26 hr (aO (aQ 0) (aO (aQ 2) (aO (aQ 3) aU)))) aU))))) aU))))))
noncomputable abbrev HB:Stmt:=top 22
noncomputable abbrev pB:List Str:=["layout","thing"]
theorem KA:bf pB ["layout","thing"] (aW HB):=⟨rfl,rfl,rfl,by decide +kernel,rfl,by decide +kernel,by decide +kernel⟩
noncomputable def kl (c_NoHead:Addr):M (Fl ⊕ Addr) :=
 (fA (eY (fC (do let x <- (mC (bh 2 (bg lu ka)) (aR (aV 1) (aR (mC cj (aR (m2 dq (aV 0) (pure (.int 1))) (pure []))) (pure []))));lift (eL x))) (fA (nX c_NoHead (aR (pure (.str "no number of a head of the layout")) (pure []))) (pure (.inl .nx))) (pure (.inl .nx))) (pure (.inl .nx)))
variable (P w K mg base) in
noncomputable abbrev iJ (k:Nat) (c_NoHead:Addr):Prop:=Kn P w K mg base (sV P w) k "need_head" ["layout","thing"] (Iu 2 (eU pB (kl c_NoHead)))
theorem IQ {k:Nat} {c_NoHead:Addr} (E:Ent K mg "need_head" ["layout","thing"] HB) (m:Bi mg) (x_NoHead:mg "NoHead" = some (.ref c_NoHead)) (q_NoHead:PySem.W.excIn K c_NoHead [.type "ValueError",.type "Exception",.type "BaseException",.type "object"] "ValueError.__new__" = true) (G_q32:eT P w K mg base k):iJ P w K mg base (k + 1) c_NoHead :=
 Oo E KA fun _ cdv A outer s H E hr=>
  (eC (vQ (dR (cP (bo G_q32 hr (aO (aQ 1) (aO (cC m.len (aO (bt (aQ 0) aY) aU)) aU))))) (eC (qg PySem.F.excBase_ValueError x_NoHead q_NoHead (aO fV aU))) ml))
noncomputable abbrev IB:Stmt:=top 34
noncomputable abbrev me:List Str:=["layout","tree","one","other"]
theorem Ko:bf me ["layout","tree","one","other"] (aW IB):=⟨rfl,rfl,rfl,by decide +kernel,rfl,by decide +kernel,by decide +kernel⟩
noncomputable def ij (c_NoHead:Addr) (c_NoTree:Addr):M (Fl ⊕ Addr) :=
 (fA (bX (bX (dX (pQ (aV 0)) (dX (pQ (aV 1)) (pure (.inl [])))) fun ds=>lift (if ds.length=2 then (eU qB (kb c_NoTree)) ds else none)) fun _=>pure (.inl .nx))
  (fA (bX (bX (dX (pQ (aV 0)) (dX (pQ (aV 2)) (pure (.inl [])))) fun ds=>lift (if ds.length=2 then (eU pB (kl c_NoHead)) ds else none)) fun _=>pure (.inl .nx))
  (fA (bX (bX (dX (pQ (aV 0)) (dX (pQ (aV 3)) (pure (.inl [])))) fun ds=>lift (if ds.length=2 then (eU pB (kl c_NoHead)) ds else none)) fun _=>pure (.inl .nx))
  (fA (pQ (do let d <- (mC (bh 3 (jw 7)) (aR (aV 1) (aR (dm (aR (aV 2) (pure []))) (aR (aV 3) (pure [])))));pure (Fl.rt d))) (pure (.inl .nx))))))
variable (P w K mg base) in
noncomputable abbrev oi (k:Nat) (c_NoHead:Addr) (c_NoTree:Addr):Prop:=Kn P w K mg base (sV P w) k "way_in" ["layout","tree","one","other"] (Iu 4 (eU me (ij c_NoHead c_NoTree)))
theorem Lp {k:Nat} {c_NoHead:Addr} {c_NoTree:Addr} (E:Ent K mg "way_in" ["layout","tree","one","other"] IB) (G_q16:iJ P w K mg base k c_NoHead) (G_q15:gk P w K mg base k c_NoTree) (G_q36:nG P w K mg base k):oi P w K mg base (k + 1) c_NoHead c_NoTree :=
 Oo E Ko fun _ cdv A outer s H E hr=>
  (gK (gI (fJ G_q15 hr (cV (eE (aQ 0)) (cV (eE (aQ 1)) jf))))
  (gK (gI (fJ G_q16 hr (cV (eE (aQ 0)) (cV (eE (aQ 2)) jf))))
  (gK (gI (fJ G_q16 hr (cV (eE (aQ 0)) (cV (eE (aQ 3)) jf))))
  (eC (Dr (bw (bo G_q36 hr (aO (aQ 1) (aO (cc (aO (aQ 2) aU)) (aO (aQ 3) aU))))))))))
noncomputable abbrev Ck:Stmt:=top 51
noncomputable abbrev gh:List Str:=["_law_way_here","_law_layout_here","_law_tree","_law_one","_law_other","_law_word","_law_e"]
theorem vI:bf gh ["_law_way_here","_law_layout_here","_law_tree","_law_one","_law_other"] (aW Ck):=⟨rfl,rfl,rfl,by decide +kernel,rfl,by decide +kernel,by decide +kernel⟩
noncomputable def eR (c_NoHead:Addr) (c_NoTree:Addr) (kn:Addr->Option Str):M Fl :=
 (br (eB 5 (pure (.str "told")))
  (br (BA 6 5 kn (fA (eY (m2 (cQ false) (aV 0) (pure (.int 0)) >>= dD) (fA (bX (bX (dX (pQ (aV 1)) (dX (pQ (aV 2)) (pure (.inl [])))) fun ds=>lift (if ds.length=2 then (eU lj (qA c_NoTree)) ds else none)) fun _=>pure (.inl .nx)) (pure (.inl .nx))) (fA (bX (bX (dX (pQ (aV 1)) (dX (pQ (aV 2)) (dX (pQ (aV 3)) (dX (pQ (aV 4)) (pure (.inl [])))))) fun ds=>lift (if ds.length=4 then (eU me (ij c_NoHead c_NoTree)) ds else none)) fun _=>pure (.inl .nx)) (pure (.inl .nx)))) (pure (.inl .nx))))
  (do let d <- (aV 5);pure (Fl.rt d))))
variable (P w K mg base) in
noncomputable abbrev i7 (k:Nat) (c_NoHead:Addr) (c_NoTree:Addr) (kn:Addr->Option Str):Prop:=Kn P w K mg base dF k "_law_said" ["_law_way_here","_law_layout_here","_law_tree","_law_one","_law_other"] (iW 5 (bg gh (eR c_NoHead c_NoTree kn)))
theorem KY {k:Nat} {c_NoHead:Addr} {c_NoTree:Addr} {kn:Addr->Option Str} {a__law_kind c_JoinError:Addr} {d__law_kind:FuncData} (E:Ent K mg "_law_said" ["_law_way_here","_law_layout_here","_law_tree","_law_one","_law_other"] Ck)
  (W__law_kind:P6 P w K mg base k a__law_kind c_JoinError d__law_kind ["_law_e"] kn) (x_JoinError:mg "JoinError" = some (.ref c_JoinError)) (M__law_kind:mg "_law_kind" = some (.ref a__law_kind)) (K__law_kind:PySem.W.keepIn K (.ref a__law_kind)=true) (B__law_kind:Binds K d__law_kind ["_law_e"] []) (G_q35:oi P w K mg base k c_NoHead c_NoTree) (G_q23:iY P w K mg base k c_NoTree):i7 P w K mg base (k + 1) c_NoHead c_NoTree kn :=
 lJ E vI fun _ cdv A outer s H E hr=>
  (aX (bR 5 vI.nd fV)
  (aX (Hv 6 5 W__law_kind vI.nd rfl rfl (eC (vQ (i3 (aQ 0) aY) (eC (gI (fJ G_q23 hr (cV (eE (aQ 1)) (cV (eE (aQ 2)) jf))))) (eC (gI (fJ G_q35 hr (cV (eE (aQ 1)) (cV (eE (aQ 2)) (cV (eE (aQ 3)) (cV (eE (aQ 4)) jf))))))))) hr x_JoinError M__law_kind K__law_kind B__law_kind)
  (a_ (bw (aQ 5)))))
noncomputable abbrev u0:Stmt:=top 53
noncomputable abbrev gM:List Str:=["_law_script","_law_k","_law_box_here","_law_layout_here","_law_many","_law_left","_law_names","_law_pairs","_law_tree","_law_due","_law_column","_law_one","_law_other","_law_odd_here","_law_thing"]
theorem dv:bf gM ["_law_script"] (aW u0):=⟨rfl,rfl,rfl,by decide +kernel,rfl,by decide +kernel,by decide +kernel⟩
noncomputable def xV (c_NoHead:Addr) (c_NoTree:Addr) (kn:Addr->Option Str):M Fl :=
 (br (
  do let it <- (mC dz (aR (mC jq (aR (pure (.int 1)) (aR (mC kD (aR (mC cj (aR (aV 0) (pure []))) (aR (pure (.int 5)) (pure [])))) (pure [])))) (pure [])));forM (bT 1) (br (wx 2 (mC (bh 2 (jU vd pH)) (aR (aV 0) (aR (aV 1) (pure [])))))
  (br (eB 3 (do let _ <- bO 2;dg 2 3 (cz ub B2) (aR (pure (.int 7)) (aR (pure (.int 6)) (pure [])))))
  (br (eB 4 (mC cj (aR (m2 dq (aV 3) (pure (.int 1))) (pure []))))
  (br (wx 5 (mC iB (aR (aV 4) (pure []))))
  (br (eB 6 (do let xs <- (bB 15 1 (mC dz (aR (aV 4) (pure []))) (bF (bT 15) (pure true) (uY 5 (aR (do let _ <- bO 2;dg 2 2 (cz de cZ) (aR (jx 5) (pure []))) (pure [])))));pure (D.lst xs)))
  (br (eB 7 (do let xs <- (bB 15 1 (mC zO (aR (pure (.int 1)) (aR (aV 4) (pure [])))) (bF (bT 15) (pure true) (dm (aR (m2 dq (aV 6) (do let _ <- bO 2;dg 2 2 (cz de cZ) (aR (aV 15) (pure [])))) (aR (m2 dq (aV 6) (aV 15)) (pure []))))));pure (D.lst xs)))
  (br (eB 8 (mC dQ (aR (do let xs <- (mQ Jt.Tu.sortU (do let x <- (do let xs <- (bB 15 1 (do let x <- (aV 7);lift (bH x)) (bF (bT 15) (pure true) (dm (aR (mC pj (aR (aV 15) (pure []))) (aR (mC qd (aR (aV 15) (pure []))) (pure []))))));pure (D.lst xs));lift (lP x)));pure (D.lst xs)) (pure []))))
  (br (eB 9 (mC o_ (aR (do let xs <- (bB 15 2 (do let x <- (aV 8);lift (bH x)) (bF (fQ 2 (cN (bT 15) (cN (bT 16) gQ))) (pure true) (mC cj (aR (do let xs <- (bB 17 1 (do let x <- (m2 dq (m2 dq (aV 3) (pure (.int 1))) (aV 15));lift (bH x)) (bF (bT 17) (m2 (kq false) (aV 17) (m2 dq (m2 dq (aV 3) (pure (.int 1))) (aV 16)) >>= dD) (aV 17)));pure (D.lst xs)) (pure [])))));pure (D.lst xs)) (pure []))))
  (br (eY (vj ((m2 (f9 true) (mC (bh 2 (bg uH DX)) (aR (aV 3) (aR (aV 8) (pure [])))) (aV 9)) >>= dD) (fC (do let x <- (mC (bh 1 (bg mm kY)) (aR (mC (bh 2 (bg uH DX)) (aR (aV 3) (aR (aV 8) (pure [])))) (pure [])));lift (eL x)))) (do let d <- (pure (.bl false));pure (Fl.rt d)) (pure .nx))
  (br (eB 9 (pure (.int 0)))
  (br (
  do let it <- (mC dz (aR (m2 dq (aV 3) (pure (.int 0))) (pure [])));forM (bT 10) (eB 9 (m2 dY (aV 9) (mC jq (aR (pure (.int 0)) (aR (m2 f_ (mC cj (aR (do let xs <- (bB 15 1 (do let x <- (m2 dq (aV 3) (pure (.int 1)));lift (bH x)) (bF (bT 15) (m2 (kq false) (aV 10) (aV 15) >>= dD) (aV 15)));pure (D.lst xs)) (pure []))) (pure (.int 1))) (pure [])))))) it.2 it.1)
  (br (eY ((m2 (f9 true) (mC (bh 1 (bg qj uM)) (aR (aV 3) (pure []))) (aV 9)) >>= dD) (do let d <- (pure (.bl false));pure (Fl.rt d)) (pure .nx))
  (br (
  do let it <- (mC dz (aR (aV 4) (pure [])));forM (bT 11) (
  do let it <- (mC dz (aR (aV 4) (pure [])));forM (bT 12) (eY ((m2 (f9 true) (mC (bh 4 (bg x8 xK)) (aR (aV 3) (aR (aV 8) (aR (aV 11) (aR (aV 12) (pure [])))))) (mC (bh 3 (bg tE qz)) (aR (aV 8) (aR (aV 11) (aR (aV 12) (pure [])))))) >>= dD) (do let d <- (pure (.bl false));pure (Fl.rt d)) (pure .nx)) it.2 it.1) it.2 it.1)
  (br (eB 13 (do let _ <- bO 2;dg 2 1 (cz xx tN) (pure [])))
  (
  do let it <- (do let x <- (do let xs <- (dW (aR (aV 13) (aR (aV 4) (aR (m1 lG (pure (.int 1))) (aR (pure (.bl true)) (aR (pure .non) (pure [])))))));pure (D.lst xs));lift (bH x));forM (bT 14) (br (eY (vj (fC (do let x <- (mC (bh 1 (bg mm kY)) (aR (aV 14) (pure [])));lift (eL x))) (fC ((BB zT sv (pure (.int 0)) (aV 14) (aV 4)) >>= dD))) (br (eY ((m2 (f9 true) (do let xs <- (bB 15 1 (do let x <- (do let xs <- (dW (aR (pure (.int 0)) (aR (aV 14) (pure []))));pure (D.lst xs));lift (bH x)) (bF (bT 15) (pure true) (mC (bh 5 (bg gh (eR c_NoHead c_NoTree kn))) (aR (pure (.int 1)) (aR (aV 3) (aR (aV 8) (aR (aV 15) (aR (aV 14) (pure [])))))))));pure (D.lst xs)) (do let xs <- (dW (aR (pure (.str "! head")) (aR (pure (.str "! head")) (pure []))));pure (D.lst xs))) >>= dD) (do let d <- (pure (.bl false));pure (Fl.rt d)) (pure .nx))
  (eY (m2 (cQ true) (mC (bh 5 (bg gh (eR c_NoHead c_NoTree kn))) (aR (pure (.int 1)) (aR (aV 3) (aR (aV 8) (aR (aV 14) (aR (pure (.int 0)) (pure []))))))) (pure (.str "! head")) >>= dD) (do let d <- (pure (.bl false));pure (Fl.rt d)) (pure .nx))) (pure .nx))
  (eY (fC (do let x <- (mC (bh 2 (bg vW j7)) (aR (aV 3) (aR (aV 14) (pure []))));lift (eL x))) (eY ((m2 (f9 true) (do let xs <- (bB 15 1 (mC dz (aR (pure (.int 2)) (pure []))) (bF (bT 15) (pure true) (mC (bh 5 (bg gh (eR c_NoHead c_NoTree kn))) (aR (aV 15) (aR (aV 3) (aR (aV 14) (aR (aV 14) (aR (aV 14) (pure [])))))))));pure (D.lst xs)) (do let xs <- (dW (aR (pure (.str "! tree")) (aR (pure (.str "! tree")) (pure []))));pure (D.lst xs))) >>= dD) (do let d <- (pure (.bl false));pure (Fl.rt d)) (pure .nx)) (pure .nx))) it.2 it.1))))))))))))))) it.2 it.1)
  (do let d <- (pure (.bl true));pure (Fl.rt d)))
theorem Nu {k:Nat} {c_NoHead:Addr} {c_NoTree:Addr} {kn:Addr->Option Str} (m:Bi mg) (G_q25:jE P w K mg base k) (G_q1:f6 P w K mg base k) (G_q5:gy P w K mg base k) (G_q27:jy P w K mg base k) (G_q24:i7 P w K mg base k c_NoHead c_NoTree kn) (G_q18:cW P w K mg base k) (G_q31:jF P w K mg base k) (G_q10:fI P w K mg base k) (G_q13:g9 P w K mg base k) (G_q29:jz P w K mg base k) (G_q8:gw P w K mg base k) (f:Addr) (cdv:Value) (A:Around) (outer:List Env) (s:Shared) (H:Hp) (E:XK) (hr:cX k (A.deeper (PyProof.Rows.envOfC "law" (aW u0) s.heap.objs.size f cdv))):vf (ir dF P w K mg base gM "law" (aW u0) f cdv A outer s H E).nox (cq u0) (xV c_NoHead c_NoTree kn) :=
  (aX (d4 (bZ rfl m.range (aO (nz m.max (aO aY (aO (rG m.min (aO (cC m.len (aO (aQ 0) aU)) (aO aY aU))) aU))) aU)) (ba 1 dv.nd) (aX (jc 2 dv.nd (uA G_q25 hr (aO (aQ 0) (aO (aQ 1) aU))))
  (aX (bR 3 dv.nd (bx 2 G_q5 hr (aO aY (aO aY aU))))
  (aX (bR 4 dv.nd (cC m.len (aO (bt (aQ 3) aY) aU)))
  (aX (jc 5 dv.nd (nF m.list m.range (aO (aQ 4) aU)))
  (aX (bR 6 dv.nd (bp (b_ (N':=gM) (own:=["_law_turn"]) (lo:=15) (cJ (bZ rfl m.range (aO (aQ 4) aU))) (fun _ _ _ _=>(ba 15 (show (gM ++ (["_law_turn"]:List Str):List Str).Nodup by decide +kernel))) (fun _ _ _ _=>cu) (fun _ _ _ _=>(wB 5 (aO (bx 2 G_q18 hr (aO (j8 5 m.len) aU)) aU))))))
  (aX (iV 7 dv.nd (N':=gM) (own:=["_law_number"]) (lo:=15) (cJ (zv rfl m.range (aO aY (aO (aQ 4) aU)))) (fun _ _ _ _=>(ba 15 (show (gM ++ (["_law_number"]:List Str):List Str).Nodup by decide +kernel))) (fun _ _ _ _=>cu) (fun _ _ _ _=>(cc (aO (bt (aQ 6) (bx 2 G_q18 hr (aO (aQ 15) aU))) (aO (bt (aQ 6) (aQ 15)) aU)))))
  (aX (bR 8 dv.nd (eF m.tuple (aO (bp (Jt.Tu.df_sortedU m.sorted (xI (bp (b_ (N':=gM) (own:=["_law_pair"]) (lo:=15) (cJ (cG (aQ 7))) (fun _ _ _ _=>(ba 15 (show (gM ++ (["_law_pair"]:List Str):List Str).Nodup by decide +kernel))) (fun _ _ _ _=>cu) (fun _ _ _ _=>(cc (aO (Hc m.min (aO (aQ 15) aU)) (aO (ED m.max (aO (aQ 15) aU)) aU))))))))) aU)))
  (aX (bR 9 dv.nd (sH m.sum (aO (bp (b_ (N':=(["_law_script","_law_k","_law_box_here","_law_layout_here","_law_many","_law_left","_law_names","_law_pairs","_law_tree","_law_due","_law_column","?11","?12","_law_odd_here","_law_thing"]:List Str)) (own:=["_law_one","_law_other"]) (lo:=15) (cJ (cG (aQ 8))) (fun _ _ _ _=>(gz (cg (ba 15 (show ((["_law_script","_law_k","_law_box_here","_law_layout_here","_law_many","_law_left","_law_names","_law_pairs","_law_tree","_law_due","_law_column","?11","?12","_law_odd_here","_law_thing"]:List Str) ++ (["_law_one","_law_other"]:List Str):List Str).Nodup by decide +kernel)) (cg (ba 16 (show ((["_law_script","_law_k","_law_box_here","_law_layout_here","_law_many","_law_left","_law_names","_law_pairs","_law_tree","_law_due","_law_column","?11","?12","_law_odd_here","_law_thing"]:List Str) ++ (["_law_one","_law_other"]:List Str):List Str).Nodup by decide +kernel)) e_)))) (fun _ _ _ _=>cu) (fun _ _ _ _=>(cC m.len (aO (bp (b_ (N':=(["_law_script","_law_k","_law_box_here","_law_layout_here","_law_many","_law_left","_law_names","_law_pairs","_law_tree","_law_due","?10","?11","?12","_law_odd_here","_law_thing","_law_one","_law_other"]:List Str)) (own:=["_law_column"]) (lo:=17) (cJ (cG (bt (bt (aQ 3) aY) (aQ 15)))) (fun _ _ _ _=>(ba 17 (show ((["_law_script","_law_k","_law_box_here","_law_layout_here","_law_many","_law_left","_law_names","_law_pairs","_law_tree","_law_due","?10","?11","?12","_law_odd_here","_law_thing","_law_one","_law_other"]:List Str) ++ (["_law_column"]:List Str):List Str).Nodup by decide +kernel))) (fun _ _ _ _=>eJ (j4 (aQ 17) (bt (bt (aQ 3) aY) (aQ 16)))) (fun _ _ _ _=>(aQ 17)))) aU))))) aU)))
  (aX (cM (lB (j_ (jV hr (bo G_q8 hr (aO (aQ 3) (aO (aQ 8) aU))) (aQ 9)) (iX (dR (cP (bo G_q10 hr (aO (bo G_q8 hr (aO (aQ 3) (aO (aQ 8) aU))) aU))))))) (a_ (bw eK)) bQ)
  (aX (bR 9 dv.nd aY)
  (aX (d4 (bZ rfl m.range (aO (bt (aQ 3) aY) aU)) (ba 10 dv.nd) (a_ (bR 9 dv.nd (dA (aQ 9) (nz m.max (aO aY (aO (fB (cC m.len (aO (bp (b_ (N':=gM) (own:=["_law_head_here"]) (lo:=15) (cJ (cG (bt (aQ 3) aY))) (fun _ _ _ _=>(ba 15 (show (gM ++ (["_law_head_here"]:List Str):List Str).Nodup by decide +kernel))) (fun _ _ _ _=>eJ (j4 (aQ 10) (aQ 15))) (fun _ _ _ _=>(aQ 15)))) aU)) aY) aU)))))))
  (aX (cM (jV hr (bo G_q13 hr (aO (aQ 3) aU)) (aQ 9)) (a_ (bw eK)) bQ)
  (aX (d4 (bZ rfl m.range (aO (aQ 4) aU)) (ba 11 dv.nd) (a_ (d4 (bZ rfl m.range (aO (aQ 4) aU)) (ba 12 dv.nd) (a_ (cM (jV hr (bo G_q29 hr (aO (aQ 3) (aO (aQ 8) (aO (aQ 11) (aO (aQ 12) aU))))) (bo G_q31 hr (aO (aQ 8) (aO (aQ 11) (aO (aQ 12) aU))))) (a_ (bw eK)) bQ)))))
  (aX (bR 13 dv.nd (bx 2 G_q27 hr aU))
  (a_ (d4 (cG (bp (cF (aO (aQ 13) (aO (aQ 4) (aO (gR aY) (aO eK (aO kC aU)))))))) (ba 14 dv.nd) (aX (cM (lB (j_ (dR (cP (bo G_q10 hr (aO (aQ 14) aU)))) (iX (dR (Gr aY (aQ 14) (aQ 4)))))) (aX (cM (jV hr (bp (b_ (N':=(["_law_script","_law_k","_law_box_here","_law_layout_here","_law_many","_law_left","_law_names","_law_pairs","_law_tree","_law_due","_law_column","?11","_law_other","_law_odd_here","_law_thing"]:List Str)) (own:=["_law_one"]) (lo:=15) (cJ (cG (bp (cF (aO aY (aO (aQ 14) aU)))))) (fun _ _ _ _=>(ba 15 (show ((["_law_script","_law_k","_law_box_here","_law_layout_here","_law_many","_law_left","_law_names","_law_pairs","_law_tree","_law_due","_law_column","?11","_law_other","_law_odd_here","_law_thing"]:List Str) ++ (["_law_one"]:List Str):List Str).Nodup by decide +kernel))) (fun _ _ _ _=>cu) (fun _ _ _ _=>(bo G_q24 hr (aO aY (aO (aQ 3) (aO (aQ 8) (aO (aQ 15) (aO (aQ 14) aU))))))))) (bp (cF (aO fV (aO fV aU))))) (a_ (bw eK)) bQ)
  (a_ (cM (rT (bo G_q24 hr (aO aY (aO (aQ 3) (aO (aQ 8) (aO (aQ 14) (aO aY aU)))))) fV) (a_ (bw eK)) bQ))) bQ)
  (a_ (cM (dR (cP (bo G_q1 hr (aO (aQ 3) (aO (aQ 14) aU))))) (a_ (cM (jV hr (bp (b_ (N':=gM) (own:=["_law_way_here"]) (lo:=15) (cJ (bZ rfl m.range (aO aY aU))) (fun _ _ _ _=>(ba 15 (show (gM ++ (["_law_way_here"]:List Str):List Str).Nodup by decide +kernel))) (fun _ _ _ _=>cu) (fun _ _ _ _=>(bo G_q24 hr (aO (aQ 15) (aO (aQ 3) (aO (aQ 14) (aO (aQ 14) (aO (aQ 14) aU))))))))) (bp (cF (aO fV (aO fV aU))))) (a_ (bw eK)) bQ)) bQ))))))))))))))))))))
  (a_ (bw eK)))
end
end K23
namespace K23
inductive fG (E:List (Nat × Nat)):Nat->Nat->Prop
 | refl (a:Nat):fG E a a
 | step {a b c:Nat}:((a,b) ∈ E ∨ (b,a) ∈ E)->fG E b c->fG E a c
theorem fG.trans(h:fG E a b)(g:fG E b c):fG E a c:=by induction h with
 |refl=>exact g
 |step e _ o=>exact .step e (o g)
theorem fG.one(h:(a,b)∈E\/(b,a)∈E):fG E a b:= .step h (.refl b)
theorem fG.symm(h:fG E a b):fG E b a:=by induction h with
 |refl=>exact .refl _
 |step e _ o=>exact o.trans (.one e.symm)
theorem fG.mono (s:∀ e ∈ E,e ∈ F) (h:fG E a b):fG F a b:= by
 induction h with
 | refl=>exact .refl _
 | step e _ ih=>exact .step (e.imp (s _) (s _)) ih
theorem fG.nil(h:fG [] a b):a=b:=by cases h with
 |refl=>rfl
 |step e _=>rcases e with e|e <;> cases e
theorem u7:fG ((u,v) :: E) a b ↔ fG E a b ∨ (fG E a u∧fG E v b) ∨ (fG E a v∧fG E u b):= by
 constructor
 .intro h
  induction h with
  | refl=>exact .inl (.refl _)
  | @step a b c e _ ih=>
   have e':(a=u∧b=v) ∨ (a=v∧b=u) ∨ (a,b) ∈ E ∨ (b,a) ∈ E:= by
    rcases e with e | e
    .rcases List.mem_cons.mp e with e | e
     .cases e;exact .inl ⟨rfl,rfl⟩
     .exact .inr (.inr (.inl e))
    .rcases List.mem_cons.mp e with e | e
     .cases e;exact .inr (.inl ⟨rfl,rfl⟩)
     .exact .inr (.inr (.inr e))
   rcases e' with ⟨rfl,rfl⟩ | ⟨rfl,rfl⟩ | e
   .rcases ih with h | ⟨_,h⟩ | ⟨_,h⟩
    .exact .inr (.inl ⟨.refl _,h⟩)
    .exact .inr (.inl ⟨.refl _,h⟩)
    .exact .inl h
   .rcases ih with h | ⟨_,h⟩ | ⟨_,h⟩
    .exact .inr (.inr ⟨.refl _,h⟩)
    .exact .inl h
    .exact .inr (.inr ⟨.refl _,h⟩)
   .rcases ih with h | ⟨h1,h2⟩ | ⟨h1,h2⟩
    .exact .inl (.step e h)
    .exact .inr (.inl ⟨.step e h1,h2⟩)
    .exact .inr (.inr ⟨.step e h1,h2⟩)
 .have m:∀ e ∈ E,e ∈ (u,v) :: E:=fun e he=>List.mem_cons_of_mem _ he
  have uv:fG ((u,v) :: E) u v:=.one (.inl List.mem_cons_self)
  rintro (h | ⟨h1,h2⟩ | ⟨h1,h2⟩)
  .exact h.mono m
  .exact (h1.mono m).trans (uv.trans (h2.mono m))
  .exact (h1.mono m).trans (uv.symm.trans (h2.mono m))
noncomputable def Ig(f:Nat->Nat)(E:List (Nat×Nat)):Prop:= ∀a b,f a=f b↔fG E a b
noncomputable def GR(f:Nat->Nat)(u v:Nat):Nat->Nat:= λ a=>if f a=f u then f v else f a
theorem ER:Ig id []:= λ a b=>⟨λ h=>by cases h;exact .refl _,λ h=>h.nil⟩
theorem xP(L:Ig f E)(u v:Nat):Ig (GR f u v) ((u,v)::E):= λ a b=>by
 rw[u7,<- L a b,<- L a u,<- L v b,<- L a v,<- L u b];unfold GR;by_cases C:f a=f u <;> by_cases o:f b=f u;. simp[C,o]
 .simp[C,o];constructor;. exact λ h=> .inr (.inl h)
  .rintro(h|h|⟨_,h⟩);. exact absurd h.symm o
   .exact h
   .exact absurd h.symm o
 .simp[C,o]
 .have I: ¬f u=f b:= λ z=>o z.symm;simp[C,o,I]
theorem rB: ∀E:List (Nat×Nat),∃f,Ig f E
 |[]=>⟨id,ER⟩
 |(u,v)::E=>by obtain⟨f,L⟩:=rB E;exact⟨_,xP L u v⟩
noncomputable def uq:List Nat->List Nat
 |[]=>[]
 |x::l=>if x∈l then uq l else x::uq l
theorem fz: ∀{l:List Nat},a∈uq l↔a∈l
 |[]=>Iff.rfl
 |x::l=>by
  unfold uq;split;. rename_i h;rw[fz,List.mem_cons];exact⟨.inr,λ z=>z.elim (λ e=>e▸h) id⟩
  .rw[List.mem_cons,fz,List.mem_cons]
theorem pS: ∀l:List Nat,(uq l).Nodup
 |[]=>List.nodup_nil
 |x::l=>by
  unfold uq;split;. exact pS l
  .rename_i h;exact List.nodup_cons.mpr ⟨λ z=>h (fz.mp z),pS l⟩
theorem HX: ∀{l:List Nat},l.Nodup->uq l=l
 |[],_=>rfl
 |x::l,h=>by have h:=List.nodup_cons.mp h;unfold uq;rw[if_neg h.1,HX h.2]
noncomputable def cls(f:Nat->Nat)(V:List Nat):Nat:=(uq (V.map f)).length
theorem ma: ∀{V:List Nat},(∀a∈V,∀b∈V,f a=f b↔g a=g b)->cls f V=cls g V
 |[],_=>rfl
 |x::V,h=>by
  have C:=ma (f:=f) (g:=g) (V:=V) λ a I b J=>h a (List.mem_cons_of_mem _ I) b (List.mem_cons_of_mem _ J);have e:f x∈V.map f↔g x∈V.map g:=by
   rw[List.mem_map,List.mem_map];constructor;. rintro⟨y,o,e⟩;exact⟨y,o,(h y (List.mem_cons_of_mem _ o) x List.mem_cons_self).mp e⟩
   .rintro⟨y,o,e⟩;exact⟨y,o,(h y (List.mem_cons_of_mem _ o) x List.mem_cons_self).mpr e⟩
  unfold cls at*;rw[List.map_cons,List.map_cons];unfold uq;by_cases q:f x∈V.map f;. rw[if_pos q,if_pos (e.mp q)];exact C
  .rw[if_neg q,if_neg λ z=>q (e.mpr z),List.length_cons,List.length_cons,C]
theorem EW{V:List Nat}{u v:Nat}(C:u∈V)(I:v∈V)(h:f u≠f v):cls (GR f u v) V+1=cls f V:=by
 have p:(uq (V.map (GR f u v))++[f u]).Perm (uq (V.map f)):=by
  refine(List.perm_ext_iff_of_nodup (List.nodup_append.mpr ⟨pS _,by simp,?_⟩) (pS _)).mpr λ a=>?_
  .intro a J b U e;rw[List.mem_singleton.mp U]at e;subst e;obtain⟨y,_,e⟩:=List.mem_map.mp (fz.mp J);unfold GR at e;split at e;. exact h e.symm
   .rename_i q;exact q e
  .rw[List.mem_append,fz,fz,List.mem_map,List.mem_map,List.mem_singleton];constructor
   .rintro(⟨y,o,e⟩|rfl)
    .unfold GR at e;split at e;. exact⟨v,I,e⟩
     .exact⟨y,o,e⟩
    .exact⟨u,C,rfl⟩
   .rintro⟨y,o,rfl⟩;by_cases q:f y=f u;. exact .inr q
    .exact .inl ⟨y,o,if_neg q⟩
 have:=p.length_eq;rw[List.length_append]at this;exact this
theorem wq:cls f V<=1↔ ∀a∈V,∀b∈V,f a=f b:=by
 constructor;. intro h a C b I;have o:f a∈uq (V.map f):=fz.mpr (List.mem_map.mpr ⟨a,C,rfl⟩);have J:f b∈uq (V.map f):=fz.mpr (List.mem_map.mpr ⟨b,I,rfl⟩);unfold cls at h;match e:uq (V.map f),h with
  |[],_=>rw[e]at o;cases o
  |[x],_=>rw[e]at o J;rw[List.mem_singleton.mp o,List.mem_singleton.mp J]
  |_::_::_,h=>simp at h
 .intro h;unfold cls;match e:uq (V.map f)with
  |[]=>simp
  |[x]=>simp
  |x::y::r=>
   have hx:x∈uq (V.map f):=by rw[e];simp
   have U:y∈uq (V.map f):=by rw[e];simp
   obtain⟨a,C,ea⟩:=List.mem_map.mp (fz.mp hx);obtain⟨b,I,eb⟩:=List.mem_map.mp (fz.mp U);have nd:=pS (V.map f);rw[e]at nd;have:=(List.nodup_cons.mp nd).1;exact absurd (by rw[<- ea,<- eb,h a C b I];simp) this
noncomputable def lL(E:List (Nat×Nat)):Prop:= ∀k,(h:k<E.length)-> ¬fG (E.take k) E[k].1 E[k].2
theorem kf(nd:V.Nodup): ∀(E:List (Nat×Nat))(k:Nat),(∀e∈E,e.1∈V/\e.2∈V)->k<=E.length-> ∀f,Ig f (E.take k)->V.length<=cls f V+k/\((∀j,(h:j<E.length)->j<k-> ¬fG (E.take j) E[j].1 E[j].2)↔cls f V+k=V.length)
 |E,0,J,hk,f,L=>by
  have e:cls f V=V.length:=by
   have:=ma (f:=f) (g:=id) (V:=V) λ a _ b _=>by rw[L a b];exact⟨λ h=>h.nil,λ h=>by cases h;exact .refl _⟩
   rw[this];unfold cls;rw[List.map_id,HX nd]
  exact⟨by omega,⟨λ _=>by omega,λ _ j _ C=>by omega⟩⟩
 |E,k+1,J,hk,f,L=>by
  have o:k<E.length:=by omega
  obtain⟨g,I⟩:=rB (E.take k);obtain⟨i1,i2⟩:=kf nd E k J (by omega) g I;obtain⟨mu,mv⟩:=J _ (List.getElem_mem o);have tk:E.take (k+1)=E.take k++[E[k]]:=List.take_succ_eq_append_getElem o;have L2:=xP I E[k].1 E[k].2;have same:cls f V=cls (GR g E[k].1 E[k].2) V:=ma λ a _ b _=>by
   rw[L a b,L2 a b,tk];constructor
   .exact fG.mono λ e he=>by
     rcases List.mem_append.mp he with he|he
     .exact List.mem_cons_of_mem _ he
     .rw[List.mem_singleton.mp he];exact List.mem_cons_self
   .exact fG.mono λ e he=>by
     rcases List.mem_cons.mp he with he|he
     .rw[he];exact List.mem_append.mpr (.inr (List.mem_singleton.mpr rfl))
     .exact List.mem_append.mpr (.inl he)
  by_cases q:g E[k].1=g E[k].2
  .have e:GR g E[k].1 E[k].2=g:=by
    funext a;unfold GR;split;. rename_i z;rw[z,q]
    .rfl
   rw[same,e];exact⟨by omega,⟨λ h=>absurd ((I _ _).mp q) (h k o (by omega)),λ h=>by omega⟩⟩
  .have c:=EW (f:=g) mu mv q;refine⟨by omega,?_⟩;constructor;. intro h;have:=i2.mp λ j C U=>h j C (by omega);omega
   .intro h j C U;by_cases e:j=k;. subst e;exact λ z=>q ((I _ _).mpr z)
    .exact i2.mpr (by omega) j C (by omega)
theorem kB(nd:V.Nodup){E:List (Nat×Nat)}(C: ∀e∈E,e.1∈V/\e.2∈V){f:Nat->Nat}(L:Ig f E):V.length<=cls f V+E.length/\(lL E↔cls f V+E.length=V.length):=by have h:=kf nd E E.length C (Nat.le_refl _) f (by rw[List.take_length];exact L);exact⟨h.1,⟨λ z=>h.2.mp λ j o _=>z j o,λ z j o=>h.2.mpr z j o o⟩⟩
noncomputable def Mq(E:List (Nat×Nat))(V:List Nat):Prop:= ∀a∈V,∀b∈V,fG E a b
theorem ES{f:Nat->Nat}(L:Ig f E):Mq E V↔cls f V<=1:=by rw[wq];exact⟨λ h a o b C=>(L a b).mpr (h a o b C),λ h a o b C=>(L a b).mp (h a o b C)⟩
theorem uU(nd:V.Nodup)(o:V≠[]){E:List (Nat×Nat)}(C: ∀e∈E,e.1∈V/\e.2∈V)(I:E.length+1=V.length):lL E↔Mq E V:=by obtain⟨f,L⟩:=rB E;have h:=kB nd C L;rw[h.2,ES L];omega
noncomputable abbrev Pr:=Nat×Nat
theorem qW (h:e ∈ E):fG E e.1 e.2:=.one (.inl h)
theorem Ht:lL []:= λ k h=>absurd h (by simp)
theorem AY (h:lL (A ++ B)):lL A:=fun k hk=>by
 have:=h k (by simp;omega)
 rw [List.take_append_of_le_length (by omega),List.getElem_append_left hk] at this
 exact this
theorem tR:lL (T ++ [e]) ↔ lL T∧¬ fG T e.1 e.2:= by
 constructor
 .intro h
  refine ⟨AY h,?_⟩
  have:=h T.length (by simp)
  simpa using this
 .rintro ⟨h1,h2⟩ k hk
  by_cases hk':k < T.length
  .rw [List.take_append_of_le_length (by omega),List.getElem_append_left hk']
   exact h1 k hk'
  .have:k=T.length:=by simp at hk;omega
   subst this
   simpa using h2
noncomputable def ends(E:List Pr):List Nat:=uq (E.map (·.1)++E.map (·.2))
theorem ur(h:e∈E):e.1∈ends E/\e.2∈ends E:=
 ⟨fz.mpr (List.mem_append.mpr (.inl (List.mem_map.mpr ⟨e,h,rfl⟩))),fz.mpr (List.mem_append.mpr (.inr (List.mem_map.mpr ⟨e,h,rfl⟩)))⟩
theorem uo{E F:List Pr}(p:E.Perm F)(h:lL E):lL F:=by obtain⟨f,Lf⟩:=rB E;have o:Ig f F:= λ a b=>(Lf a b).trans ⟨fG.mono λ e he=>p.mem_iff.mp he,fG.mono λ e he=>p.mem_iff.mpr he⟩;have nd:(ends E).Nodup:=pS _;have C:=(kB nd (λ e he=>ur he) Lf).2.mp h;refine(kB nd (λ e he=>ur (p.mem_iff.mpr he)) o).2.mpr ?_;rw[<- p.length_eq];exact C
theorem zq{E:List Pr}(h:lL E):E.Nodup:=by rw[List.nodup_iff_pairwise_ne,List.pairwise_iff_getElem];intro i j I o C e;refine h j o ?_;rw[<- e];refine qW ?_;rw[List.mem_take_iff_getElem];exact⟨i,by omega,rfl⟩
open Classical in
noncomputable def wt(w:Pr->Int)(L:List Pr):Int:=(L.map w).sum
noncomputable def subs:Nat->List Pr->List (List Pr)
 |0,_=>[[]]
 |k+1,[]=>[]
 |k+1,e::r=>(subs k r).map (e:: .)++subs (k+1) r
section
open Classical in
end
section
variable {w:Pr->Int}
noncomputable def Pk(w:Pr->Int)(T:List Pr)(d:Int)(X:List Pr):Prop:=lL (T++X)/\wt w X=d
open Classical in
noncomputable def Ov(w:Pr->Int)(T:List Pr)(d:Int)(k:Nat)(R:List Pr):Option (List Pr):=((subs k R).filter λ X=>decide (Pk w T d X)).head?
open Classical in
end
section
variable {hs:List (List Int)} {M:Nat} {t:List Pr}
noncomputable def co(hs:List (List Int))(c i:Nat):Bool:=decide ((c:Int)∈hs.getD i [])
noncomputable def wh(hs:List (List Int))(e:Pr):Int:=(((hs.getD e.1 []).filter λ x=>decide (x∈hs.getD e.2 [])).length:Nat)
noncomputable def vc(hs:List (List Int))(c:Nat):List Nat:=(List.range hs.length).filter λ i=>co hs c i
noncomputable def ec(hs:List (List Int))(t:List Pr)(c:Nat):List Pr:=t.filter λ e=>co hs c e.1&&co hs c e.2
noncomputable def nV(hs:List (List Int))(M:Nat):Int:=((List.range M).map λ c=>max (((vc hs c).length:Int) -1) 0).sum
end
noncomputable def stH(sm f:List Nat)(e:Pr):List Nat:=if(decide (e.1∈f)!=decide (e.2∈f))&&decide (e.1∈sm)&&decide (e.2∈sm)then f++[if e.1∈f then e.2 else e.1]else f
noncomputable def rdH(sm:List Nat)(P:List Pr)(f:List Nat):List Nat:=P.foldl (stH sm) f
noncomputable def pE(sm:List Nat)(P:List Pr):Nat->List Nat->List Nat
 |0,f=>f
 |k+1,f=>rdH sm P (pE sm P k f)
noncomputable def lg(P:List Pr)(sm:List Nat):Bool:=if sm=[]then true else(pE sm P sm.length (sm.take 1)).length==sm.length
section
variable {sm:List Nat} {P:List Pr}
theorem G5(f:List Nat)(e:Pr):f.length<=(stH sm f e).length/\((stH sm f e).length=f.length->stH sm f e=f):=by
 unfold stH;split;. simp
 .exact⟨Nat.le_refl _,λ _=>rfl⟩
theorem xr: ∀(P:List Pr)(f:List Nat),f.length<=(rdH sm P f).length/\((rdH sm P f).length=f.length->rdH sm P f=f/\ ∀e∈P,stH sm f e=f)
 |[],f=>⟨Nat.le_refl _,λ _=>⟨rfl,λ e he=>(nomatch he)⟩⟩
 |e::r,f=>by have C:=G5 (sm:=sm) f e;have o:=xr r (stH sm f e);have I:rdH sm (e::r) f=rdH sm r (stH sm f e):=rfl;rw[I];refine⟨by omega,λ h=>?_⟩;have k1:=C.2 (by omega);rw[k1]at o h|-;have k2:=o.2 h;exact⟨k2.1,λ x hx=>by
   rcases List.mem_cons.mp hx with rfl|hx
   .exact k1
   .exact k2.2 x hx⟩
theorem DR: ∀{P:List Pr}{f:List Nat},(∀e∈P,stH sm f e=f)->rdH sm P f=f
 |[],f,_=>rfl
 |e::r,f,h=>by show rdH sm r (stH sm f e)=f;rw[h e List.mem_cons_self];exact DR λ x hx=>h x (List.mem_cons_of_mem _ hx)
theorem xj(P:List Pr)(f:List Nat): ∀k,(∀e∈P,stH sm (pE sm P k f) e=pE sm P k f)\/f.length+k<=(pE sm P k f).length
 |0=> .inr (Nat.le_refl _)
 |k+1=>by
  show(∀e∈P,stH sm (rdH sm P (pE sm P k f)) e=rdH sm P (pE sm P k f))\/_<=(rdH sm P (pE sm P k f)).length;rcases xj P f k with h|h
  .rw[DR h];exact .inl h
  .have o:=xr (sm:=sm) P (pE sm P k f);by_cases q:(rdH sm P (pE sm P k f)).length=(pE sm P k f).length;. obtain⟨a,b⟩:=o.2 q;rw[a];exact .inl b
   .exact .inr (by omega)
noncomputable def both(sm:List Nat)(P:List Pr):List Pr:=P.filter λ e=>decide (e.1∈sm)&&decide (e.2∈sm)
structure JH (sm:List Nat) (P:List Pr) (x:Nat) (f:List Nat):Prop where
 nd:f.Nodup
 sub:∀ a ∈ f,a ∈ sm
 root:x ∈ f
 rch:∀ a ∈ f,fG (both sm P) x a
theorem JH.st(h:JH sm P x f)(he:e∈P):JH sm P x (stH sm f e):=by
 unfold stH;split
 .rename_i c;simp at c;have C:e∈both sm P:=List.mem_filter.mpr ⟨he,by simp[c.1.2,c.2]⟩;by_cases q:e.1∈f
  .have I:e.2∉f:= λ z=>c.1.1 ⟨λ _=>z,λ _=>q⟩;rw[if_pos q];refine⟨?_,λ a o=>?_,List.mem_append.mpr (.inl h.root),λ a o=>?_⟩;. exact List.nodup_append.mpr ⟨h.nd,by simp,λ a o b C z=>I (by rw[List.mem_singleton.mp C]at z;exact z▸o)⟩
   .rcases List.mem_append.mp o with z|z
    .exact h.sub a z
    .rw[List.mem_singleton.mp z];exact c.2
   .rcases List.mem_append.mp o with z|z
    .exact h.rch a z
    .rw[List.mem_singleton.mp z];exact(h.rch _ q).trans (qW C)
  .have I:e.2∈f:=by
    by_cases z:e.2∈f;. exact z
    .exact absurd ⟨λ y=>absurd y q,λ y=>absurd y z⟩ c.1.1
   rw[if_neg q];refine⟨?_,λ a o=>?_,List.mem_append.mpr (.inl h.root),λ a o=>?_⟩;. exact List.nodup_append.mpr ⟨h.nd,by simp,λ a o b C z=>q (by rw[List.mem_singleton.mp C]at z;exact z▸o)⟩
   .rcases List.mem_append.mp o with z|z
    .exact h.sub a z
    .rw[List.mem_singleton.mp z];exact c.1.2
   .rcases List.mem_append.mp o with z|z
    .exact h.rch a z
    .rw[List.mem_singleton.mp z];exact(h.rch _ I).trans (qW C).symm
 .exact h
theorem JH.rd: ∀{Q:List Pr}{f:List Nat},(∀e∈Q,e∈P)->JH sm P x f->JH sm P x (rdH sm Q f)
 |[],f,_,h=>h
 |e::r,f,o,h=>JH.rd (Q:=r) (λ y C=>o y (List.mem_cons_of_mem _ C)) (h.st (o e List.mem_cons_self))
theorem JH.it(h:JH sm P x f): ∀k,JH sm P x (pE sm P k f)
 |0=>h
 |k+1=>JH.rd (λ _ z=>z) (JH.it h k)
theorem xM{a b:List Nat}(nd:a.Nodup)(h: ∀x∈a,x∈b):a.length<=b.length:=by induction a generalizing b with
 |nil=>exact Nat.zero_le _
 |cons x r C=>have n:=List.nodup_cons.mp nd;have hx:x∈b:=h x List.mem_cons_self;have:=C (b:=b.erase x) n.2 λ y o=>(List.mem_erase_of_ne (show y≠x from λ z=>n.1 (z▸o))).mpr (h y (List.mem_cons_of_mem _ o));rw[List.length_erase_of_mem hx]at this;have p:=List.length_pos_of_mem hx;rw[List.length_cons];omega
theorem JN{a b:List Nat}(nd:a.Nodup)(h: ∀x∈a,x∈b)(C:b.length<=a.length): ∀x∈b,x∈a:= λ x hx=>by
 by_cases q:x∈a;. exact q
 .have:=xM (a:=x::a) (b:=b) (List.nodup_cons.mpr ⟨q,nd⟩) λ y o=>by
   rcases List.mem_cons.mp o with rfl|o
   .exact hx
   .exact h y o
  rw[List.length_cons]at this;omega
theorem Gm(nd:sm.Nodup):lg P sm=true↔Mq (both sm P) sm:=by
 unfold lg;split;. rename_i e;subst e;exact⟨λ _ a o=>(nomatch o),λ _=>rfl⟩
 .rename_i ne;obtain⟨x,r,rfl⟩: ∃x r,sm=x::r:=by cases sm with
   |nil=>exact absurd rfl ne
   |cons x r=>exact⟨x,r,rfl⟩
  have j0:JH (x::r) P x ((x::r).take 1):=⟨by simp,λ a o=>by
   have:a=x:=by simpa using o
   rw[this];exact List.mem_cons_self,by simp,λ a o=>by
   have:a=x:=by simpa using o
   rw[this];exact .refl _⟩;have j:=j0.it (x::r).length;have le:=xM j.nd j.sub;have closed: ∀e∈P,stH (x::r) (pE (x::r) P (x::r).length ((x::r).take 1)) e=pE (x::r) P (x::r).length ((x::r).take 1):=by
   rcases xj (sm:=x::r) P ((x::r).take 1) (x::r).length with h|h
   .exact h
   .have:((x::r).take 1).length=1:=by simp
    omega
  generalize pE (x::r) P (x::r).length ((x::r).take 1)=f at j le closed;rw[beq_iff_eq];have cl: ∀a b,fG (both (x::r) P) a b->a∈f->b∈f:=by intro a b h;induction h with
   |refl a=>exact id
   |step z _ ih=>
    intro o;refine ih ?_;have C: ∀e∈both (x::r) P,(e.1∈f↔e.2∈f):= λ e he=>by
     obtain⟨h1,I⟩:=List.mem_filter.mp he;have J:=closed e h1;unfold stH at J;split at J;. have:=congrArg List.length J;simp at this
     .rename_i U;simp only[Bool.and_eq_true,decide_eq_true_eq]at I;simp[I.1,I.2]at U;exact U
    rcases z with z|z
    .exact(C _ z).mp o
    .exact(C _ z).mpr o
  constructor;. intro e a o b hb;have all:=JN j.nd j.sub (by omega);exact(j.rch a (all a o)).symm.trans (j.rch b (all b hb))
  .intro h;have:(x::r).length<=f.length:=xM nd λ a o=>cl x a (h x List.mem_cons_self a o) j.root;omega
end
noncomputable def z_(X:List Pr)(u v:Nat):Prop:=(u,v)∈X\/(v,u)∈X
noncomputable def vm(X:List Pr):List Nat->Prop
 |[]=>True
 |[_]=>True
 |u::v::r=>z_ X u v/\vm X (v::r)
theorem qZ: ∀{w:List Nat}{u g:Nat},vm X (u::w)->(u::w).getLast?=some g->fG X u g
 |[],u,g,_,e=>by
  have:u=g:=by simpa using e
  subst this;exact .refl u
 |v::r,u,g,c,e=> .step c.1 (qZ c.2 (e))
theorem sA: ∀{w:List Nat},vm X w->e.1∉w\/e.2∉w->vm (X.erase e) w
 |[],_,_=>trivial
 |[_],_,_=>trivial
 |u::v::r,c,h=>by
  have ne: ∀{p:Pr},(p=(u,v)\/p=(v,u))->p≠e:= λ{p} o q=>by subst q;rcases o with rfl|rfl <;> rcases h with h|h <;> exact h (by simp)
  refine⟨?_,sA c.2 (h.imp (λ z m=>z (List.mem_cons_of_mem _ m)) λ z m=>z (List.mem_cons_of_mem _ m))⟩;rcases c.1 with z|z
  .exact .inl ((List.mem_erase_of_ne (ne (.inl rfl))).mpr z)
  .exact .inr ((List.mem_erase_of_ne (ne (.inr rfl))).mpr z)
theorem xT (hF:lL X) (he:e ∈ X):¬ fG (X.erase e) e.1 e.2:= by
 have p:X.Perm (X.erase e ++ [e]):=(List.perm_cons_erase he).trans (List.perm_append_singleton _ _).symm
 exact (tR.mp (uo p hF)).2
theorem Bz (hF:lL X) (h:z_ X u v):∃ e ∈ X,(e=(u,v) ∨ e=(v,u))∧¬ fG (X.erase e) u v:= by
 rcases h with h | h
 .exact ⟨_,h,.inl rfl,xT hF h⟩
 .exact ⟨_,h,.inr rfl,fun r=>xT hF h r.symm⟩
theorem yf{X:List Pr}(hF:lL X): ∀{p q:List Nat}{u g:Nat},vm X (u::p)->vm X (u::q)->(u::p).Nodup->(u::q).Nodup->(u::p).getLast?=some g->(u::q).getLast?=some g->p=q
 |[],[],_,_,_,_,_,_,_,_=>rfl
 |[],b::q,u,g,_,_,_,I,o,C=>by
  exfalso;have h:u=g:=by simpa using o
  subst h;exact(List.nodup_cons.mp I).1 (List.mem_of_getLast? C)
 |a::p,[],u,g,_,_,np,_,o,C=>by
  exfalso;have h:u=g:=by simpa using C
  subst h;exact(List.nodup_cons.mp np).1 (List.mem_of_getLast? o)
 |a::p,b::q,u,g,J,U,np,I,o,C=>by
  by_cases h:a=b;. subst h;rw[yf hF J.2 U.2 (List.nodup_cons.mp np).2 (List.nodup_cons.mp I).2 o C]
  .exfalso;obtain⟨e,he,hq,nr⟩:=Bz hF J.1;have up:=(List.nodup_cons.mp np).1;have uq:=(List.nodup_cons.mp I).1;have off: ∀{w:List Nat},u∉w->e.1∉w\/e.2∉w:= λ{w} z=>hq.elim (λ q=> .inl (by rw[q];exact z)) (λ q=> .inr (by rw[q];exact z));have r1:=qZ (sA J.2 (off up)) o;have r2:=qZ (sA U.2 (off uq)) C;have r3:fG (X.erase e) u b:=by
    have ne: ∀{p:Pr},(p=(u,b)\/p=(b,u))->p≠e:= λ{p} hp z=>by
     have nu:u≠b:= λ z=>uq (by rw[z];simp);rcases hp with rfl|rfl <;> rcases hq with rfl|rfl <;> simp only[Prod.mk.injEq]at z
     .exact h z.2.symm
     .exact nu z.2.symm
     .exact nu z.1.symm
     .exact h z.1.symm
    refine .one ?_;rcases U.1 with z|z
    .exact .inl ((List.mem_erase_of_ne (ne (.inl rfl))).mpr z)
    .exact .inr ((List.mem_erase_of_ne (ne (.inr rfl))).mpr z)
   exact nr (r3.trans (r2.trans r1.symm))
theorem Ly{X:List Pr}{u g:Nat}(r:fG X u g): ∃p,vm X (u::p)/\(u::p).Nodup/\(u::p).getLast?=some g:=by induction r with
 |refl a=>exact⟨[],trivial,by simp,by simp⟩
 |@step a b c s r J=>
  obtain⟨p,C,np,lp⟩:=J;by_cases h:a∈b::p;.
   have cut: ∀{w:List Nat},vm X w->w.Nodup->w.getLast?=some c->a∈w-> ∃p,vm X (a::p)/\(a::p).Nodup/\(a::p).getLast?=some c:=by intro w;induction w with
    |nil=>intro _ _ _ m;cases m
    |cons x w o=>
     intro I nw lw m;by_cases e:a=x;. subst e;exact⟨w,I,nw,lw⟩
     .rcases List.mem_cons.mp m with z|z
      .exact absurd z e
      .cases w with
       |nil=>cases z
       |cons y w=>exact o I.2 (List.nodup_cons.mp nw).2 (lw) z
   exact cut C np lp h
  .exact⟨b::p,⟨s,C⟩,List.nodup_cons.mpr ⟨h,np⟩,lp⟩
noncomputable def xn(X:List Pr)(v:Nat):List Nat:=X.filterMap λ e=>if v=e.1\/v=e.2 then some (e.1+e.2-v)else none
theorem lQ:h∈xn X v↔z_ X v h:=by
 unfold xn z_;rw[List.mem_filterMap];constructor
 .rintro⟨e,he,q⟩;split at q
  .rename_i z;injection q with q;rcases z with z|z
   .left;have:(v,h)=e:=by ext <;> dsimp only <;> omega
    rw[this];exact he
   .right;have:(h,v)=e:=by ext <;> dsimp only <;> omega
    rw[this];exact he
  .cases q
 .rintro(z|z);. exact⟨_,z,by rw[if_pos (.inl rfl)];congr 1;omega⟩
  .exact⟨_,z,by rw[if_pos (.inr rfl)];congr 1;omega⟩
noncomputable def Ext(X:List Pr)(w:List Nat)(g:Nat)(p:List Nat):Prop:= ∃u,w.getLast?=some u/\vm X (u::p)/\(w++p).Nodup/\(u::p).getLast?=some g
theorem ext_cons (hu:w.getLast? = some u):Ext X w g (h :: p) ↔ z_ X u h∧Ext X (w ++ [h]) g p:= by
 constructor
 .rintro ⟨v,hv,c,nd,l⟩
  rw [hu] at hv
  cases hv
  exact ⟨c.1,h,by simp,c.2,by simpa using nd,l⟩
 .rintro ⟨a,v,hv,c,nd,l⟩
  have:v=h:=by simpa using hv.symm
  subst this
  exact ⟨u,hu,⟨a,c⟩,by simpa using nd,l⟩
theorem Eo{u g:Nat}(C:w.getLast?=some u)(o:Ext X w g p):p=[]/\u=g\/ ∃h q,p=h::q/\z_ X u h/\h∉w/\Ext X (w++[h]) g q:=by cases p with
 |nil=>obtain⟨v,I,_,_,l⟩:=o;rw[C]at I;cases I;exact .inl ⟨rfl,by simpa using l⟩
 |cons h q=>obtain⟨v,I,c,nd,l⟩:=id o;refine .inr ⟨h,q,rfl,((ext_cons C).mp o).1,λ m=>?_,((ext_cons C).mp o).2⟩;exact(List.nodup_append.mp nd).2.2 h m h (by simp) rfl
theorem Gg{X:List Pr}(I:lL X){w p q:List Nat}{g:Nat}(J:Ext X w g p)(U:Ext X w g q):p=q:=by
 obtain⟨u,o,c1,n1,l1⟩:=J;obtain⟨v,C,c2,n2,l2⟩:=U;rw[o]at C;cases C;have m:u∈w:=List.mem_of_getLast? o;have sub: ∀{p:List Nat},(w++p).Nodup->(u::p).Nodup:= λ{p} z=>by have z:=List.nodup_append.mp z;exact List.nodup_cons.mpr ⟨λ y=>z.2.2 u m u y rfl,z.2.1⟩
 exact yf I c1 c2 (sub n1) (sub n2) l1 l2
noncomputable def lst(r:List Nat):Nat:=r.getLast?.getD 0
noncomputable def gr(r:List Nat)(e:Pr):List (List Nat):=if(lst r=e.1\/lst r=e.2)/\e.1+e.2-lst r∉r then[r++[e.1+e.2-lst r]]else[]
noncomputable def vk(X:List Pr)(R:List (List Nat)):List (List Nat):=R.flatMap λ r=>X.flatMap (gr r)
noncomputable def rws(X:List Pr)(a:Nat):Nat->List (List Nat)
 |0=>[[a]]
 |t+1=>vk X (rws X a t)
theorem A8:s ∈ X.flatMap (gr r) ↔ ∃ h,z_ X (lst r) h∧h ∉ r∧s=r ++ [h]:= by
 rw [List.mem_flatMap]
 constructor
 .rintro ⟨e,he,hs⟩
  unfold gr at hs
  split at hs
  .rename_i z
   refine ⟨_,?_,z.2,List.mem_singleton.mp hs⟩
   exact lQ.mp (List.mem_filterMap.mpr ⟨e,he,if_pos z.1⟩)
  .cases hs
 .rintro ⟨h,ad,hm,rfl⟩
  have:=lQ.mpr ad
  obtain ⟨e,he,q⟩:=List.mem_filterMap.mp this
  split at q
  .rename_i z
   injection q with q
   refine ⟨e,he,?_⟩
   unfold gr
   rw [q,if_pos ⟨z,hm⟩]
   simp
  .cases q
theorem mH: ∀{r:List Nat}{h:Nat},r≠[]->(vm X (r++[h])↔vm X r/\z_ X (lst r) h)
 |[],_,z=>absurd rfl z
 |[u],h,_=>by show(z_ X u h/\True)↔True/\z_ X (lst [u]) h;simp[lst]
 |u::v::r,h,_=>by have o:=mH (X:=X) (r:=v::r) (h:=h) (by simp);show(z_ X u v/\vm X (v::r++[h]))↔(z_ X u v/\vm X (v::r))/\_;rw[o];exact and_assoc.symm
noncomputable def Way(X:List Pr)(a:Nat)(r:List Nat):Prop:=vm X r/\r.Nodup/\r.head?=some a
theorem ti(ne:s≠[])(t:List Nat):(s++t).head?=s.head?:=by cases s with
 |nil=>exact absurd rfl ne
 |cons x s=>rfl
theorem l5: ∀{t:Nat}{r:List Nat},r∈rws X a t↔Way X a r/\r.length=t+1
 |0,r=>by
  show r∈[[a]]↔_;rw[List.mem_singleton];constructor;. rintro rfl;exact⟨⟨trivial,by simp,rfl⟩,rfl⟩
  .rintro⟨⟨_,_,h⟩,l⟩;match r,l with
   |[x],_=>simpa using h
 |t+1,r=>by
  show r∈vk X (rws X a t)↔_;unfold vk;rw[List.mem_flatMap];constructor
  .rintro⟨s,hs,J⟩;obtain⟨⟨c,nd,hd⟩,l⟩:=l5.mp hs;obtain⟨h,ad,hm,rfl⟩:=A8.mp J;have ne:s≠[]:= λ z=>by rw[z]at l;simp at l
   refine⟨⟨(mH ne).mpr ⟨c,ad⟩,?_,?_⟩,by simp[l]⟩;. rw[List.nodup_append];exact⟨nd,by simp,λ x hx y U e=>by rw[List.mem_singleton.mp U]at e;exact hm (e▸hx)⟩
   .rw[ti ne];exact hd
  .rintro⟨⟨c,nd,hd⟩,l⟩;have ne:r≠[]:= λ z=>by rw[z]at l;simp at l
   obtain⟨s,h,rfl⟩: ∃s h,r=s++[h]:=⟨r.dropLast,r.getLast ne,(List.dropLast_concat_getLast ne).symm⟩;have C:s.length=t+1:=by simpa using l
   have ne2:s≠[]:= λ z=>by rw[z]at C;simp at C
   have o:=List.nodup_append.mp nd;have I:=(mH ne2).mp c;refine⟨s,l5.mpr ⟨⟨I.1,o.1,?_⟩,C⟩,A8.mpr ⟨h,I.2,λ m=>o.2.2 h m h (by simp) rfl,rfl⟩⟩;rw[ti ne2]at hd;exact hd
theorem AX(r:List Nat)(X:List Pr):(X.flatMap (gr r)).length<=X.length:=by induction X with
 |nil=>simp
 |cons e X o=>
  rw[List.flatMap_cons,List.length_append,List.length_cons];have:(gr r e).length<=1:=by unfold gr;split <;> simp
  omega
theorem qM(o:X.length<=5): ∀R:List (List Nat),(vk X R).length<=5*R.length
 |[]=>by simp[vk]
 |r::R=>by have C:=qM o R;have:=AX r X;have e:vk X (r::R)=X.flatMap (gr r)++vk X R:=List.flatMap_cons ..;rw[e,List.length_append,List.length_cons];omega
theorem qR(o:X.length<=5)(a:Nat): ∀t,(rws X a t).length<=5^t
 |0=>by simp[rws]
 |t+1=>by have C:=qR o a t;have:=qM o (rws X a t);show(vk X (rws X a t)).length<=_;omega
end K23
namespace K23
open PySem L2 Jt
noncomputable def hD(h:List Int):D:= .tup (h.map .int)
noncomputable def bW(m:Int)(hs:List (List Int)):D:= .tup [.int m,.tup (hs.map hD)]
noncomputable def lD(ls:List Nat):List D:=ls.map λ(i:Nat)=> .int (i:Int)
noncomputable def G(hs:List (List Int))(i:Nat):List Int:=hs.getD i []
theorem zL(h:List Int):mD (h.map .int)=some (h.map V.int):=by induction h with
 |nil=>rfl
 |cons a r o=>simp[mD,flat,o]
theorem GV(c:Int)(h:List Int):L3 (.int c) (h.map V.int)=decide (c∈h):=by induction h with
 |nil=>rfl
 |cons a r o=>
  show(a==c||L3 (.int c) (r.map V.int))=_;rw[o];by_cases e:c=a;. subst e;simp
  .simp[e,Ne.symm e]
theorem pF(neg:Bool)(c:Int)(h:List Int):kq neg (.int c) (hD h)=some (.bl (if neg then !decide (c∈h)else decide (c∈h))):=by simp[kq,hD,lP,flat,zL,GV]
theorem Bw(h:List Int):bH (hD h)=some (bC (h.map .int)):=rfl
theorem h_{α:Type}(f:α->Bool)(as:List α):boolsOf (as.map λ a=> .bl (f a))=some (as.map f):=by induction as with
 |nil=>rfl
 |cons a r o=>simp[boolsOf,o]
theorem atI_nat(xs:List α)(i:Nat)(h:i<xs.length):jL xs i=some xs[i]:=by
 have o:i<xs.length:=by omega
 simp[jL,zE,o]
theorem qG{i:Nat}(h:i<hs.length):dq (.tup (hs.map hD)) (.int i)=some (hD (G hs i)):=by show jL _ _=_;rw[atI_nat _ _ (by simpa using h)];simp[G,h]
theorem fw(m:Int)(hs:List (List Int)):dq (bW m hs) (.int 1)=some (.tup (hs.map hD)):=rfl
theorem va(m:Int)(hs:List (List Int)):dq (bW m hs) (.int 0)=some (.int m):=rfl
theorem qV(neg:Bool)(a b:Int):f9 neg (.int a) (.int b)=some (.bl (if neg then !decide (a=b)else decide (a=b))):=Kr neg a b
theorem l9(neg:Bool)(a b:Nat):f9 neg (.int a) (.int b)=some (.bl (if neg then !decide (a=b)else decide (a=b))):=by rw[qV];simp[Int.natCast_inj]
theorem jd(neg:Bool)(xs:List D):f9 neg (.lst xs) (.lst [])=some (.bl (if neg then !xs.isEmpty else xs.isEmpty)):=by cases xs <;> simp[f9,jB,dI,dI.go]
theorem nQ(n:Nat):cb 0 n=lD (List.range n):=by simp[cb,lD]
theorem eI(n i:Nat)(h:i<(cb 0 n).length):(cb 0 n)[i]= .int i:=by simp[cb]
variable {hs:List (List Int)} {ls:List Nat} {x:D}
theorem wj (h:-(2 ^ 64) < j) (h2:j < 2 ^ 64):oQ (.int i) (.int j)=some (.int (i * j)):= by
 show (if ((decide (-(2 ^ 64) < i) && decide (i < 2 ^ 64)) || (decide (-(2 ^ 64) < j) && decide (j < 2 ^ 64)))=true then _ else _)=_
 rw [if_pos (by rw [decide_eq_true h,decide_eq_true h2];simp)]
noncomputable def g8(m:Int)(h:List Int):Prop:=h≠[]/\h.Pairwise (. < .)/\ ∀c∈h,0<=c/\c<m
theorem sk: ∀(l:List Int)(lo o:Int),l.Pairwise (. < .)->(∀y∈l,lo<=y/\y<o)->lo<=o->l.length<=o-lo
 |[],lo,o,_,_,h=>by simp;omega
 |z::t,lo,o,C,I,h=>by rw[List.pairwise_cons]at C;have hz:=I z List.mem_cons_self;have:=sk t (z+1) o C.2 (λ y J=>⟨by have:=C.1 y J;omega,(I y (List.mem_cons_of_mem _ J)).2⟩) (by omega);rw[List.length_cons];omega
theorem g8.len(H:g8 m h)(o:1<=m)(hm:m<=7):h.length<=7:=by have:=sk h 0 m H.2.1 H.2.2 (by omega);omega
theorem og(h:l.Nodup):(d9 l).Pairwise (. < .):=by refine((nj l).and ((fL l).nodup_iff.mpr h)).imp λ{a b} h=>?_;omega
theorem kS{l:List Int}:a∈d9 l↔a∈l:=(fL l).mem_iff
noncomputable def LQ(d:D)(xs:List D):Prop:= ∃(m:Int) (hs:List (List Int)) (n:Int),d=bW m hs/\xs=[.int n]/\1<=hs.length/\hs.length<=6/\(1<=m/\m<=7)/\ ∀h∈hs,g8 m h
theorem kI(h:List Int):dN (h.map .int)=some h:=by induction h with
 |nil=>rfl
 |cons a r o=>simp[dN,o]
theorem pL(h:List Int):(d9 h).length=h.length:=(fL h).length_eq
theorem GG(neg:Bool)(xs:List D):Mw neg (.lst xs) (.lst [])=some (.bl (if neg then !xs.isEmpty else xs.isEmpty)):=jd neg xs
theorem B0(hs:List (List Int))(n:Int)(I:0<hs.length): ∃h∈hs,dq (.lst (hs.map hD)) (.int (n%hs.length))=some (hD h):=by
 have J:=Int.emod_nonneg n (show(hs.length:Int)≠0 by omega);have U:=Int.emod_lt_of_pos n (show(0:Int)<hs.length by omega);obtain⟨j,C⟩: ∃j:Nat,n%hs.length=j:=⟨(n%hs.length).toNat,by omega⟩;have o:j<hs.length:=by omega
 refine⟨hs[j],List.getElem_mem o,?_⟩;rw[C];show jL _ _=_;rw[atI_nat _ _ (by simpa using o)];simp
theorem jh{α β:Type}(f:α->β): ∀(l:List α)(j:Nat),(l.map f).eraseIdx j=(l.eraseIdx j).map f
 |[],_=>rfl
 |_::_,0=>rfl
 |a::r,j+1=>by show f a::(r.map f).eraseIdx j=f a::(r.eraseIdx j).map f;rw[jh f r j]
theorem fU(xs:List D):dQ [.lst xs]=some (.tup xs):=rfl
noncomputable def isInt:D->Bool
 | .int _=>true
 |_=>false
noncomputable def cm(n:Int):D->Bool
 | .int i=>decide (0<=i)&&decide (i<n)
 |_=>false
theorem CM(x:D):bg xp uX [x]=some (.bl (isInt x)):=by apply bJ;show Ok uX [.pu x] _;unfold uX;cases x <;> simp[cx,qY,isInt]
theorem i5 (x:D):bg mm kY [x]=some (.bl (isInt x)):= by
 apply bJ
 show Ok kY [.pu x] _
 unfold kY
 cases x <;> simp [cx,qY,isInt]
theorem t6(x:D)(n:Int):bg lu ka [x,.int n]=some (.bl (cm n x)):=by apply bJ;show Ok ka [.pu x,.pu (.int n)] _;unfold ka;cases x with
 |int i=>
  by_cases h:0<=i;. simp[bh,CM,isInt,cm,zT,sv,df,h]
  .simp[bh,CM,isInt,cm,zT,sv,df,h]
 |_=>simp[bh,CM,isInt,cm]
noncomputable def kG(n:Int):D->Bool
 | .tup xs=>xs.all (cm n)
 |_=>false
noncomputable def Short(x:D):Prop:= ∀xs,x= .tup xs->xs.length<=60
theorem MM(n:Int)(h:Short x):bg p_ ug [x,.int n]=some (.bl (kG n x)):=by apply bJ;show Ok ug [.pu x,.pu (.int n)] _;unfold ug;cases x with
 |tup xs=>
  have o:=h xs rfl;simp[cx,qY];refine cw xs id (λ x=>some (.bl (cm n x))) rfl ?_ (by omega) (λ x hx=>?_) ?_;. simp[bH]
  .simp[bh,t6]
  .simp[jn,h_,List.filterMap_eq_map,kG,Function.comp_def]
 |_=>simp[qY,kG]
theorem dU(ls:List Nat):(lD ls).length=ls.length:=by simp[lD]
variable {hs:List (List Int)} {ls:List Nat}
theorem CV(xs:List D)(k:Nat):cutD xs none (some k)=xs.take k:=by unfold cutD;rw[show HT.sIx xs.length 0 none=0 from rfl,HT.sIx_nat,List.drop_zero,List.take_eq_take_iff];omega
theorem G9(ls:List Nat)(k:Nat):(lD ls).take k=lD (ls.take k):=by simp[lD]
variable {hs:List (List Int)} {ls:List Nat}
theorem uk(n:Nat): ∀(a b:List Int),dI.go (n+1) (a.map D.int) (b.map D.int)=some (decide (a.take b.length=b.take a.length)):=by intro a;induction a with
 |nil=>intro b;cases b <;> simp[dI.go]
 |cons x r o=>intro b;cases b with
  |nil=>simp[dI.go]
  |cons y t=>
   by_cases e:x=y;. subst e;simp[dI.go,dI,flat,xG,o]
   .simp[dI.go,dI,flat,xG,e,o]
theorem ky(neg:Bool)(k:Nat)(ls:List Nat):kq neg (.int k) (.tup (lD ls))=some (.bl (if neg then !decide (k∈ls)else decide (k∈ls))):=by
 have:lD ls=(ls.map λ(i:Nat)=>(i:Int)).map .int:=by simp[lD]
 have e:=pF neg k (ls.map λ(i:Nat)=>i);unfold hD at e;rw[this,e];have:((k:Int)∈ls.map λ(i:Nat)=>(i:Int))=(k∈ls):=by refine propext ⟨λ h=>?_,λ h=>List.mem_map.mpr ⟨k,h,rfl⟩⟩;obtain⟨i,o,e⟩:=List.mem_map.mp h;rw[<- Int.ofNat_inj.mp e];exact o
 simp[this]
variable {hs:List (List Int)} {ls:List Nat}
theorem FU(xs:List D)(n:Int)(h:0<xs.length): ∃d∈xs,dq (.lst xs) (.int (n%xs.length))=some d:=by
 have I:=Int.emod_nonneg n (show(xs.length:Int)≠0 by omega);have J:=Int.emod_lt_of_pos n (show(0:Int)<xs.length by omega);obtain⟨j,C⟩: ∃j:Nat,n%xs.length=j:=⟨(n%xs.length).toNat,by omega⟩;have o:j<xs.length:=by omega
 refine⟨xs[j],List.getElem_mem o,?_⟩;rw[C];show jL _ _=_;rw[atI_nat _ _ o]
theorem MZ(xs ys:List D)(o:xs.length<=100)(C:ys.length<=100):mR (.tup xs) (.tup ys)=some (.tup (xs++ys)):=by show(if xs.length+ys.length<=100000 then _ else _)=_;rw[if_pos (by omega)]
theorem qf(h:xs.length<=60):Short (.tup xs):= λ ys e=>by cases e;exact h
end K23
namespace K23
open PySem L2 Jt
open Builtin.Int (intBits)
theorem vR(ns:List Int)(o: ∀i∈ns,intBits i<=2^20)(k:Nat)(C:k<100): ∃c:Int,bg xA oh [.lst (ns.map .int),.int k]=some (.int c)/\intBits c<=2^20:=by
 by_cases h:k<ns.length
 .refine⟨ns[k],bJ ?_,o _ (List.getElem_mem h)⟩;show Ok oh [.pu (.lst (ns.map .int)),.pu (.int k)] _;unfold oh;have e:dq (.lst (ns.map .int)) (.int (k:Int))=some (.int ns[k]):=by
   show jL _ _=_;rw[atI_nat _ _ (by simpa using h)];simp
  simp[cj,sv,df,h,e]
 .refine⟨6151*(k:Int)+29,bJ ?_,?_⟩;. show Ok oh [.pu (.lst (ns.map .int)),.pu (.int k)] _;unfold oh;simp[cj,sv,df,h,oQ,dY]
  .exact Nat.le_trans (intBits_le_64 (by omega) (by omega)) (by decide)
theorem tq(h:intBits i+intBits j<=134217728):qo (.int i) (.int j)=some (.int (i*j)):=by show(if decide (intBits i+intBits j<=134217728)=true then _ else _)=_;rw[decide_eq_true h];rfl
theorem yH(C:intBits c<=2^20)(k:Nat)(hk:k<100): ∃n:Int,bg uj pZ [.int c,.int k]=some (.int n):=by
 have key: ∃d,bg uj pZ [.int c,.int k]=some d/\ ∃n,d= .int n:=by apply xR;show Ok pZ [.pu (.int c),.pu (.int k),.un] _;unfold pZ;have s1: ∀z:Int,-(2^63)<z->z<2^63->intBits z<=64:= λ z h1 h2=>intBits_le_64 (by omega) (by omega);have I:oQ (.int (c+1)) (.int 40692)=some (.int ((c+1)*40692)):=wj (by omega) (by omega);have J:oQ (.int 104729) (.int (k:Int))=some (.int (104729*(k:Int))):=wj (by omega) (by omega);have b1:=PyProof.Rows.bits_add C (s1 1 (by omega) (by omega));have U:=PyProof.Rows.bits_mul b1 (s1 40692 (by omega) (by omega));have o:=PyProof.Rows.bits_add U (s1 (104729*(k:Int)) (by omega) (by omega));have e3:qo (.int ((c+1)*40692+104729*(k:Int))) (.int ((c+1)*40692+104729*(k:Int)))=some (.int (((c+1)*40692+104729*(k:Int))*((c+1)*40692+104729*k))):=tq (Nat.le_trans (Nat.add_le_add o o) (by decide));have g1:=Int.emod_nonneg (((c+1)*40692+104729*k)*((c+1)*40692+104729*k)) (show 2147483399≠0 by omega);have g2:=Int.emod_lt_of_pos (((c+1)*40692+104729*k)*((c+1)*40692+104729*k)) (show 0<2147483399 by omega);simp[cn,mG,yn,hU,bU,List.getElem?_cons_zero,List.getElem?_cons_succ,Option.some.injEq,Jt.Slot.pu.injEq,exists_eq_left',dY,df,if_true,gY,I,J];simp[List.set_cons_succ,List.set_cons_zero,List.getElem?_cons_zero,List.getElem?_cons_succ,Option.some.injEq,Jt.Slot.pu.injEq,exists_eq_left',yn,hU,e3,gY,bU,s_,df];generalize(((c+1)*40692+104729*k)*((c+1)*40692+104729*k))%2147483399=z at g1 g2|-;have e4:qo (.int (z+k)) (.int (z+k+31))=some (.int ((z+k)*(z+k+31))):=tq (Nat.le_trans (Nat.add_le_add (s1 (z+k) (by omega) (by omega)) (s1 (z+k+31) (by omega) (by omega))) (by decide));simp[e4,dY,df]
 obtain⟨d,e,n,rfl⟩:=key;exact⟨n,e⟩
theorem zH(ns:List Int)(J: ∀i∈ns,intBits i<=2^20)(k:Nat)(o:k<100): ∃n:Int,jU vd pH [.lst (ns.map .int),.int k]=some [.int n]:=by
 obtain⟨c,ec,U⟩:=vR ns J k o;have: ∃d,jU vd pH [.lst (ns.map .int),.int k]=some d/\ ∃c,d=[.int c]:=by
  apply GY;show Ok pH [.pu (.lst (ns.map .int)),.pu (.int k),.un,.un,.un] _;unfold pH;simp[bh,ec,s_,Lr,df,fj];by_cases h:c%2=0;. simp[h]
  .simp[h,dz,d5];refine Bb (cb 0 24) (λ _ C=> ∃a x,C=[.pu (.lst (ns.map .int)),.pu (.int k),.pu (.int c),.pu (.int a),x]) ?_ (λ i o C I=>?_) (λ C I=>?_);. exact⟨_,_,rfl⟩
   .obtain⟨a,x,rfl⟩:=I;have aa:i<24:=by simpa[cb]using o
    have e4: ∀z:Int,oQ (.int z) (.int 2147483647)=some (.int (z*2147483647)):= λ z=>wj (by omega) (by omega);obtain⟨m,em⟩:=yH U i (by omega);rw[eI];simp[e4,bh,em,dY,df]
   .obtain⟨a,x,rfl⟩:=I;simp
 obtain⟨d,e,c,rfl⟩:=this;exact⟨c,e⟩
theorem m_law_take(n j:Int)(h:0<j)(C:j<1073741824):cz de cZ [.int n] [.int j]=some (.int (n%j),[.int (n/j)]):=by
 have: ∃d o,cz de cZ [.int n] [.int j]=some (d,o)/\(d= .int (n%j)/\o=[.int (n/j)]):=by apply gW;show Ok cZ [.ow true [.int n],.pu (.int j),.un,.un] _;unfold cZ;simp[jT,dq,jL,zE,h,C]
 obtain⟨d,o,e,rfl,rfl⟩:=this;exact e
noncomputable def Up(M k:Nat)(cs:List Int):Prop:=cs.Pairwise (. < .)/\ ∀c∈cs,0<=c/\c<(k:Int)/\c<(M:Int)
theorem Up.snoc{M k:Nat}{cs:List Int}(h:Up M k cs)(J:k<M):Up M (k+1) (cs++[(k:Int)]):=by
 refine⟨List.pairwise_append.mpr ⟨h.1,by simp,λ a o b C=>?_⟩,λ c I=>?_⟩;. rw[List.mem_singleton.mp C];exact(h.2 a o).2.1
 .rcases List.mem_append.mp I with q|q
  .have:=h.2 c q;omega
  .rw[List.mem_singleton.mp q];omega
theorem Up.more{M k:Nat}{cs:List Int}(h:Up M k cs):Up M (k+1) cs:=⟨h.1,λ c o=>by have:=h.2 c o;omega⟩
theorem mB(n0:Int){M:Nat}(aa:1<=M)(ab:M<=7): ∃d C,cz j3 k_ [.int n0] [.int M]=some (d,C)/\(∃h,d=hD h/\g8 M h)/\ ∃n:Int,C=[.int n]:=by
 apply gW;show Ok k_ [.ow true [.int n0],.pu (.int M),.un] _;unfold k_;have sM:d5 M=true:=by simp[d5];omega
 refine ck (λ I=> ∃(n:Int) (cs:List Int),I=[.ow true [.int n],.pu (.int M),.pu (.lst (cs.map .int))]/\Up M M cs) ?_ ?_
 .simp only[mG,bL,bU];refine dC (cb 0 M) (λ k acc I=> ∃(n:Int) (cs:List Int),acc=cs.map .int/\I=[.ow true [.int n],.pu (.int M),.un]/\Up M k cs) rfl ?_ (by simp[cb];omega) ⟨n0,[],rfl,rfl,List.Pairwise.nil,by simp⟩ ?_ ?_;. simp[dz,sM]
  .rintro j hj acc _ ha hl ⟨n,cs,rfl,rfl,o⟩;have J:j<M:=by simpa[cb]using hj
   rw[eI];by_cases q:n%3=0;. simp[-Prod.exists,m_law_take,fj,q];exact⟨_,cs++[(j:Int)],by simp,rfl,o.snoc J⟩
   .simp[-Prod.exists,m_law_take,fj,q];exact⟨_,cs,rfl,rfl,o.more⟩
  .rintro xs _ hx hl ⟨n,cs,rfl,rfl,o⟩;have:(cb 0 M).length=M:=by simp[cb]
   rw[this]at o;exact⟨by simp,trivial,n,cs,rfl,o⟩
 rintro _ ⟨n,cs,rfl,o⟩;have et:=m_law_take n M (by omega) (by omega);by_cases q:cs=[];. subst q;simp[-Prod.exists,jd,et,fU];refine⟨[n%(M:Int)],rfl,by simp,by simp,λ c U=>?_⟩;rw[List.mem_singleton.mp U];exact⟨Int.emod_nonneg n (by omega),Int.emod_lt_of_pos n (by omega)⟩
 .have q':(cs.map D.int).isEmpty=false:=by cases cs with
   |nil=>exact absurd rfl q
   |cons a r=>rfl
  simp only[cn,vN,bL,yn,hU,xH,bU,iU,List.getElem?_cons_zero,List.getElem?_cons_succ,Option.some.injEq,Jt.Slot.pu.injEq,exists_eq_left',List.length_nil,Nat.zero_le,true_and,jd,q',gY,DD,Bool.false_eq_true,if_false,D.bl.injEq,jv,d3,fU];exact⟨_,_,rfl,rfl,⟨cs,rfl,q,o.1,λ c U=>by have:=o.2 c U;omega⟩,n,rfl⟩
end K23
local macro_rules | `(tactic| rfl')=>`(tactic| repeat (first
 | with_reducible first | apply Jt.oBind | apply Jt.oPure | apply Jt.oM2 | apply Jt.oMC | apply Jt.oCons | apply Jt.oM1 | apply Jt.oMQ | apply Jt.oTup | apply Jt.oLst | apply Jt.oSq | apply Jt.oSqO | apply Jt.oStP | apply Jt.oStO | apply Jt.oIf | apply Jt.oAnd | apply Jt.oOr | apply Jt.oNot | apply Jt.oAsB | apply Jt.oAsI | apply Jt.oBox | apply Jt.oTurn | apply Jt.oIsi | apply Jt.oH2 | apply Jt.oRd | apply Jt.oConH | apply Jt.oSl | apply Jt.oTc | apply Jt.oTn | apply Jt.oSqSP | apply Jt.oChn | apply Jt.ChE.t | apply Jt.ChE.f | apply Jt.oSqN | apply Jt.oSqR
 | ((with_reducible first | apply Jt.oGet | apply Jt.oPeek | apply Jt.oLen | apply Jt.oSet | apply Jt.oTake | apply Jt.oIxO | apply Jt.oRdL | apply Jt.oOwn | apply Jt.oTg | apply Jt.oApp | apply Jt.oSqA | apply Jt.oPop);exact rfl)
 | ((with_reducible first | apply Jt.oCall | apply Jt.oCallF);exact rfl;with_reducible assumption)
 | ((with_reducible apply Jt.oLift);first | with_reducible assumption | exact rfl)
 | ((with_reducible apply Jt.BxE.mk);exact rfl;exact rfl;first | with_reducible assumption | exact K23.m_law_take _ _ (by omega) (by omega))
 | ((with_reducible apply Jt.ApE.mk);exact rfl;first | assumption | (simp only [List.length_map,List.length_append,List.length_cons,List.length_nil];omega))
 | ((with_reducible apply Jt.PpE.mk);exact rfl;omega;with_reducible assumption)
 | ((with_reducible apply Jt.IxE.mk);exact rfl;first | with_reducible assumption | exact rfl)
 | ((with_reducible show _=_);exact rfl) | refine And.intro rfl ?_ | refine Jt.oL rfl ?_ | ((with_reducible apply Jt.oT);exact rfl) | ((with_reducible apply Jt.oF);exact rfl) | ((with_reducible apply Jt.oT);first | assumption | exact decide_eq_true (by assumption)) | ((with_reducible apply Jt.oF);first | assumption | exact decide_eq_false (by assumption))))
namespace K23
open PySem L2 Jt
open Builtin.Int (intBits)
theorem PF(hs:List (List Int))(c:Int):((hs.filter λ h=>decide (c∈h)).map hD).isEmpty= !(hs.any λ h=>decide (c∈h)):=by rw[List.isEmpty_map,Bool.eq_iff_iff,List.isEmpty_iff,List.filter_eq_nil_iff,Bool.not_eq_true',List.any_eq_false]
theorem zp{a b:List Int}(o:a.Pairwise (. < .))(C:b.Pairwise (. < .))(h: ∀x∈a,x∉b):(a++b).Nodup:=
 List.nodup_append.mpr ⟨o.imp λ{x y} q=>Int.ne_of_lt q,C.imp λ{x y} q=>Int.ne_of_lt q,λ x hx y I e=>h x hx (e▸I)⟩
noncomputable def E5(M:Nat)(hs:List (List Int)):List Nat:=(List.range M).filter λ c=>hs.any λ h=>decide ((c:Int)∈h)
theorem GK(neg:Bool)(k:Nat)(ls:List Nat):kq neg (.int k) (.lst (lD ls))=some (.bl (if neg then !decide (k∈ls)else decide (k∈ls))):=ky neg k ls
inductive GS(M Z k:Nat):DS->Prop
 |mk(n:Int)(hs:List (List Int))(a b c d e f g:Jt.Slot)(hl:hs.length=k+1)(hq: ∀h∈hs,g8 M h):GS M Z k [.ow true [.int n],.pu (.int M),.pu (.int Z),.ow false (hs.map hD),a,b,c,d,e,f,g]
theorem fE{M:Nat}(h:M<=1000):dz [.int (M:Int)]=some (bC (cb 0 M)):=by
 have sM:d5 M=true:=by simp[d5];omega
 simp[dz,sM]
theorem ui(n0:Int){M Z:Nat}(ah:1<=M)(ai:M<=7)(aw:1<=Z)(ax:Z<=6): ∃d af,cz oO Bu [.int n0] [.int M,.int Z]=some (d,af)/\(∃hs:List (List Int),d= .lst (hs.map hD)/\hs.length=Z/\ ∀h∈hs,g8 M h)/\ ∃n:Int,af=[.int n]:=by
 apply gW;show Ok Bu [.ow true [.int n0],.pu (.int M),.pu (.int Z),.un,.un,.un,.un,.un,.un,.un,.un] _;unfold Bu;have rM:=fE (M:=M) (by omega)
 obtain⟨d,af,eh,⟨h0,rfl,aj⟩,n1,rfl⟩:=mB n0 ah ai;rfl'
 have rZ:dz [.int ((Z:Int) -1)]=some (bC (cb 0 (Z-1))):=by rw[<- fE (M:=Z-1) (by omega),show((Z:Int) -1)=((Z-1:Nat):Int)by omega]
 refine PQ (cb 0 (Z-1)) (GS M Z) (by rfl') (.mk n1 [h0] _ _ _ _ _ _ _ rfl (by simpa using aj)) ?_ ?_
 .rintro k hk _ ⟨n,hs,a4,a5,a6,a7,a8,I,o,hlen,hq⟩;have ay:k<Z-1:=by simpa[cb]using hk
  rw[eI];have ag:0<hs.length:=by omega
  have L:=List.length_map (as:=hs) hD;have et:=m_law_take (n/4) (hs.map hD).length (by omega) (by omega)
  obtain⟨bb,t,h,hh,g1,g2,g3⟩: ∃(bb:Bool) (t:D) (h:List Int),h∈hs/\yO (.int (n%4)) (.int 1)=some (.bl bb)/\dq (.lst [.int (((hs.map hD).length:Int) -1),.int (n/4%((hs.map hD).length:Int))]) (.int (if bb then 1 else 0))=some t/\dq (.lst (hs.map hD)) t=some (hD h):=by
   by_cases q:1<n%4
   .obtain⟨h,hh,eh⟩:=B0 hs (n/4) ag;exact⟨true,_,h,hh,by simp[yO,df,q],rfl,by rw[L];exact eh⟩
   .refine⟨false,_,_,List.getElem_mem (show hs.length-1<hs.length by omega),by simp[yO,df,q],rfl,?_⟩;rw[show((hs.map hD).length:Int) -1=((hs.length-1:Nat):Int)by omega];show jL _ _=_;rw[atI_nat _ _ (by omega)];simp
  rfl';have U:=hq h hh;have h7:=U.len (by omega) (by omega);refine dC (h.map .int) (λ j acc C=> ∃(n':Int) (cs:List Int),acc=cs.map .int/\C=[.ow true [.int n'],.pu (.int M),.pu (.int Z),.ow false (hs.map hD),.pu (.int k),.pu (.int (n%4)),.pu (hD h),a7,a8,I,o]/\cs.Sublist (h.take j)) rfl (by rfl') (by simp;omega) ⟨_,[],rfl,rfl,by simp⟩ ?_ ?_
  .rintro j hj acc _ ha hl ⟨n,cs,rfl,rfl,J⟩;have aa:j<h.length:=by simpa using hj
   rw[List.getElem_map];have tk:h.take (j+1)=h.take j++[h[j]]:=List.take_succ_eq_append_getElem aa;by_cases q:0<n%3
   .have e:yO (.int (n%3)) (.int 0)=some (.bl true):=by simp[yO,df,q]
    rfl';exact⟨_,cs++[h[j]],by simp,rfl,by rw[tk];exact J.append (List.Sublist.refl _)⟩
   .have e:yO (.int (n%3)) (.int 0)=some (.bl false):=by simp[yO,df,q]
    rfl';exact⟨_,cs,by simp,rfl,by rw[tk];exact J.trans (List.sublist_append_left _ _)⟩
  rintro _ _ - - ⟨n2,cs,rfl,rfl,ab⟩;rw[List.length_map,List.take_length]at ab;rfl'
  refine cw (List.range M) (λ(i:Nat)=> .int (i:Int)) (λ c=>if(hs.any λ h=>decide ((c:Int)∈h))=true then some (.int (c:Int))else none) rfl (by rfl';simp[cb]) (by simp;omega) (λ c hc=>?_) ?_
  .rfl';refine C8 (i:=3) (b:=false) hs hD (λ h=>if decide ((c:Int)∈h)=true then some (hD h)else none) rfl rfl (by rfl';simp) (by omega) (λ h hh=>?_) ?_
   .have e:=pF false c h
    cases q:decide ((c:Int)∈h) <;> rw[q]at e <;> rfl'
   .rw[cY];have e:=jd true ((hs.filter λ h=>decide ((c:Int)∈h)).map hD);rw[PF hs (c:Int)]at e;cases q:(hs.any λ h=>decide ((c:Int)∈h)) <;> rw[q]at e <;> rfl'
  rw[cY,show(((List.range M).filter λ c:Nat=>hs.any λ h=>decide ((c:Int)∈h)).map λ c:Nat=>D.int (c:Int))=lD (E5 M hs)from rfl];rfl'
  refine dC (cb 0 M) (λ j acc C=> ∃(n':Int) (fs:List Int),acc=fs.map .int/\C=[.ow true [.int n'],.pu (.int M),.pu (.int Z),.ow false (hs.map hD),.pu (.int k),.pu (.int (n%4)),.pu (hD h),.pu (.lst (cs.map .int)),.pu (.lst (lD (E5 M hs))),I,o]/\Up M j fs/\ ∀c∈fs,c∉h) rfl (by rfl') (by simp[cb];omega) ⟨_,[],rfl,rfl,⟨List.Pairwise.nil,by simp⟩,by simp⟩ ?_ ?_
  .rintro j hj acc _ ha hl ⟨n,fs,rfl,rfl,J,hn⟩;have aa:j<M:=by simpa[cb]using hj
   rw[eI];have e1:=GK true j (E5 M hs);by_cases q:j∈E5 M hs
   .rw[decide_eq_true q]at e1;rfl';exact⟨_,fs,by simp,rfl,J.more,hn⟩
   .rw[decide_eq_false q]at e1;have nh:(j:Int)∉h:= λ z=>q (List.mem_filter.mpr ⟨List.mem_range.mpr aa,List.any_eq_true.mpr ⟨h,hh,decide_eq_true z⟩⟩)
    have e2:=fj false (n%2) 0
    by_cases q2:n%2=0
    .rw[decide_eq_true q2]at e2;rfl';refine⟨_,fs++[(j:Int)],by simp,rfl,J.snoc aa,λ c hc=>?_⟩
     rcases List.mem_append.mp hc with z|z
     .exact hn c z
     .rw[List.mem_singleton.mp z];exact nh
    .rw[decide_eq_false q2]at e2;rfl';exact⟨_,fs,by simp,rfl,J.more,hn⟩
  rintro _ _ - - ⟨n3,fs,rfl,rfl,ae,ao⟩;have az:=ab.length_le;rw[show(cb 0 M).length=M by simp[cb]]at ae;have aA:fs.length<=7:=by
   have:=sk fs 0 M ae.1 (λ c hc=>by have:=ae.2 c hc;omega) (by omega)
   omega
  have l2:(cs++fs).length<64:=by rw[List.length_append];omega
  have ec:uw (.lst (cs.map .int)) (.lst (fs.map .int))=some ((cs++fs).map .int):=by rw[List.map_append];exact if_pos (by simp;omega)
  have es:sortI ((cs++fs).map D.int)=some ((d9 (cs++fs)).map D.int):=by unfold sortI;rw[kI];exact if_pos l2
  have aq:(cs++fs).Nodup:=zp (U.2.1.sublist ab) ae.1 λ x hx hy=>ao x hy (ab.subset hx)
  have en:=jd false ((d9 (cs++fs)).map D.int)
  have fin: ∀{n:Int}{g:List Int}{a b c d e f g':Jt.Slot},g8 M g->GS M Z (k+1) [.ow true [.int n],.pu (.int M),.pu (.int Z),.ow false (hs.map hD++[hD g]),a,b,c,d,e,f,g']:= λ{n g a b c d e f g'} hg=>by
   have:=GS.mk (Z:=Z) (k:=k+1) n (hs++[g]) a b c d e f g' (by simp[hlen]) (λ h' av=>(List.mem_append.mp av).elim (hq h') λ z=>by rw[List.mem_singleton.mp z];exact hg)
   rwa [List.map_append]at this
  by_cases q:d9 (cs++fs)=[]
  .rw[q]at en es;have ar:0<h.length:=List.length_pos_iff.mpr U.1
   have e7:=m_law_take n3 h.length (by omega) (by omega);obtain⟨j,hj,ej⟩: ∃j,∃hj:j<h.length,n3%(h.length:Int)=(j:Int):=by
    have g1:=Int.emod_nonneg n3 (show(h.length:Int)≠0 by omega)
    have g2:=Int.emod_lt_of_pos n3 (show(0:Int)<h.length by omega)
    exact⟨(n3%(h.length:Int)).toNat,by omega,by omega⟩
   rw[ej]at e7;have ei:dq (hD h) (.int (j:Int))=some (.int h[j]):=by show jL _ _=_;rw[atI_nat _ _ (by simpa using hj)];simp
   have el:cj [hD h]=some (.int h.length):=by simp[hD,cj]
   rfl';refine eP ?_;rfl';exact fin (g:=[h[j]]) ⟨by simp,by simp,λ c hc=>by rw[List.mem_singleton.mp hc];exact U.2.2 _ (List.getElem_mem hj)⟩
  .have:((d9 (cs++fs)).map D.int).isEmpty=false:=by rw[List.isEmpty_map];exact List.isEmpty_eq_false_iff.mpr q
   rw[this]at en;rfl';refine eP ?_;rfl';exact fin ⟨q,og aq,λ c hc=>by rw[kS]at hc;exact(List.mem_append.mp hc).elim (λ z=>U.2.2 c (ab.subset z)) λ z=>by have:=ae.2 c z;omega⟩
 rintro _ ⟨n,hs,a4,a5,a6,a7,a8,I,o,hlen,hq⟩;rfl'
 refine⟨_,_,rfl,rfl,?_⟩
 exact⟨⟨hs,rfl,by rw[hlen];simp[cb];omega,hq⟩,n,rfl⟩
theorem Hg{M S k:Nat}(I:3<=S)(C:S<=M)(J:k<S):g8 M (d9 [k,(k+1)%S]):=by
 have a1:=Int.emod_nonneg (k+1) (show(S:Int)≠0 by omega);have a2:=Int.emod_lt_of_pos (k+1) (show(0:Int)<S by omega);have ne:(k:Int)≠(k+1)%S:=by
  by_cases q:k+1<S;. rw[Int.emod_eq_of_lt (by omega) (by omega)];omega
  .rw[show(k:Int)+1=S by omega,Int.emod_self];omega
 refine⟨?_,og (by simpa using ne),?_⟩;. intro e;have:=congrArg List.length e;rw[pL]at this;simp at this
 .intro c o;rw[kS]at o;rcases List.mem_cons.mp o with rfl|o
  .omega
  .rw[List.mem_singleton.mp o];omega
theorem Gw{M S k:Nat}(U:3<=S)(C:S<=M):g8 M (((List.range S).filter λ i=>decide (i≠k)).map λ(i:Nat)=>i):=by
 refine⟨?_,?_,?_⟩
 .intro e;have:(if k=0 then 1 else 0)∈(List.range S).filter λ i=>decide (i≠k):=by split <;> simp <;> omega
  rw[List.map_eq_nil_iff]at e;rw[e]at this;cases this
 .refine List.Pairwise.map _ (λ a b o=>?_) (List.Pairwise.filter _ List.pairwise_lt_range);exact Int.ofNat_lt.mpr o
 .intro c I;obtain⟨i,J,rfl⟩:=List.mem_map.mp I;have:=List.mem_range.mp (List.mem_filter.mp J).1;omega
noncomputable def BQ(M:Nat)(d:D)(o:List D):Prop:=(∃hs:List (List Int),d= .lst (hs.map hD)/\3<=hs.length/\hs.length<=6/\ ∀h∈hs,g8 M h)/\ ∃n:Int,o=[.int n]
theorem rR(n0:Int){M:Nat}(af:3<=M)(ag:M<=7): ∃d o,cz oU AH [.int n0] [.int M]=some (d,o)/\BQ M d o:=by
 apply gW;show Ok AH [.ow true [.int n0],.pu (.int M),.un] _;unfold AH;obtain⟨N,hN,ah⟩: ∃N:Nat,kD [.int 6,.int M]=some (.int N)/\N=min 6 M:=⟨min 6 M,by show some (D.int _)=_;refine congrArg (λ z:Int=>some (D.int z)) ?_;split <;> omega,rfl⟩
 have pick: ∀(a b n:Int),3<=a->a=b+1->0<N-b-> ∃S:Nat,cz de cZ [.int n] [.int (N-b)]=some (.int (n%(N-b)),[.int (n/(N-b))])/\dY (.int a) (.int (n%(N-b)))=some (.int S)/\3<=S/\S<=N/\dz [.int S]=some (bC ((List.range S).map λ(k:Nat)=>D.int (k:Int))):= λ a b n ha e hp=>by
  have h1:=Int.emod_nonneg n (show(N:Int)-b≠0 by omega);have h2:=Int.emod_lt_of_pos n hp;refine⟨(a+n%(N-b)).toNat,m_law_take n _ hp (by omega),?_,by omega,by omega,?_⟩;. show some (D.int _)=_;rw[Int.toNat_of_nonneg (by omega)]
  .rw[fE (by omega)];simp[cb]
 have fin: ∀(f:Nat->List Int){S:Nat}{n:Int},3<=S->S<=N->(∀k<S,g8 M (f k))->BQ M (.lst ((List.range S).filterMap λ k=>some (hD (f k)))) [.int n]:= λ f S n h1 h2 h3=>⟨⟨(List.range S).map f,by simp[List.filterMap_eq_map'],by simp;omega,by simp;omega,λ h hh=>by obtain⟨k,hk,rfl⟩:=List.mem_map.mp hh;exact h3 k (List.mem_range.mp hk)⟩,_,rfl⟩
 have U: ∀n:Int,Ok (br (eB 2 (m2 dY (pure (.int 3)) (do let _<- bO 0;dg 0 2 (cz de cZ) (aR (m2 f_ (mC kD (aR (pure (.int 6)) (aR (aV 1) (pure [])))) (pure (.int 2))) (pure [])))))
  (do let d<- (do let xs<- (bB 3 1 (mC dz (aR (aV 2) (pure []))) (bF (bT 3) (pure true) (mC dQ (aR (do let xs<- (bB 4 1 (mC dz (aR (aV 2) (pure []))) (bF (bT 4) ((m2 (f9 true) (aV 4) (aV 3)) >>= dD) (aV 4)));pure (D.lst xs)) (pure [])))));pure (D.lst xs));pure (Fl.rt d))) [.ow true [.int n],.pu (.int M),.un] (λ fl C=> ∃d,fl= .rt d/\ ∃d' o,fl= .rt d'/\C[0]?=some (.ow true o)/\BQ M d' o):= λ n=>by
  obtain⟨S,t,a,h3,h4,r⟩:=pick 3 2 n (by omega) rfl (by omega);rfl';refine cw (List.range S) (λ(k:Nat)=> .int (k:Int)) (λ k=>some (hD (((List.range S).filter λ i=>decide (i≠k)).map λ(i:Nat)=>(i:Int)))) rfl (by rfl') (by simp;omega) (λ k _=>?_) ?_
  .rfl';refine cw (List.range S) (λ(k:Nat)=> .int (k:Int)) (λ i=>if decide (i≠k)=true then some (.int (i:Int))else none) rfl (by rfl') (by simp;omega) (λ i _=>?_) ?_
   .have e:=l9 true i k;rw[show decide (i≠k)= !decide (i=k)from decide_not]
    cases q:decide (i=k) <;> rw[q]at e <;> rfl'
   .rw[cY,show(((List.range S).filter λ i:Nat=>decide (i≠k)).map λ i:Nat=>D.int (i:Int))=(((List.range S).filter λ i=>decide (i≠k)).map λ(i:Nat)=>(i:Int)).map .int by simp];rfl'
  .rfl';exact⟨_,rfl,_,_,rfl,rfl,fin _ h3 h4 λ k _=>Gw h3 (by omega)⟩
 have e3:=fj false M 3;by_cases h3:(M:Int)=3
 .rw[decide_eq_true h3]at e3;refine gU true (by rfl') (λ _=>(U n0).mono λ _ _ h=>by obtain⟨d,rfl,h⟩:=h;exact⟨d,rfl,h⟩) (λ h=>by cases h)
 rw[decide_eq_false h3]at e3;have e4:=fj false (n0%2) 0;refine eP ?_;rfl';by_cases q:n0%2=0
 .rw[decide_eq_true q];refine oT rfl (cn.mpr ((U _).mono λ _ _ h=>?_));obtain⟨d,rfl,h⟩:=h;exact h
 rw[decide_eq_false q];refine oF rfl (oSqN ?_);obtain⟨S,t,a,h3,h4,r⟩:=pick 4 3 (n0/2) (by omega) rfl (by omega);rfl';refine cw (List.range S) (λ(k:Nat)=> .int (k:Int)) (λ k=>some (hD (d9 [(k:Int),((k:Int)+1)%(S:Int)]))) rfl (by rfl') (by simp;omega) (λ k _=>?_) ?_
 .have e:s_ (.int ((k:Int)+1)) (.int S)=some (.int (((k:Int)+1)%(S:Int))):=if_pos (decide_eq_true (by omega))
  have e5:sortI [.int (k:Int),.int (((k:Int)+1)%(S:Int))]=some ((d9 [(k:Int),((k:Int)+1)%(S:Int)]).map .int):=rfl
  rfl'
 .rfl';exact⟨_,_,rfl,rfl,fin _ h3 h4 λ k hk=>Hg h3 (by omega) hk⟩
theorem uh{ls:List Nat}(h:ls.Nodup)(j:Nat):(ls.eraseIdx j).Nodup:=h.sublist (List.eraseIdx_sublist ls j)
theorem gH{ls:List Nat}(h:ls.Nodup){j:Nat}(C:j<ls.length):ls[j]∉ls.eraseIdx j:= λ hm=>by obtain⟨i,I,e⟩:=List.mem_eraseIdx_iff_getElem.mp hm;obtain⟨o,e⟩:=e;have:=(List.getElem_inj h).mp e;exact o this
inductive NS(M:Nat)(a:D)(hs:List (List Int)):Nat->DS->Prop
 |mk(n:Int)(l b:Jt.Slot)(rs I:List (List Int))(r1:rs.length=k)(r2:I.length+k=hs.length)(r3: ∀g∈I,g8 M g)(r4: ∀g∈rs,g8 M g):NS M a hs k [.ow true [.int n],.pu (.int M),.pu a,l,b,.ow false (rs.map hD),.ow false (I.map hD)]
inductive NC(M:Nat)(a:D)(k:Nat):List D->DS->Prop
 |mk(n:Int)(ls os:List Nat)(h1:os.length=k)(h2:ls.length+k=M)(h3:os.Nodup)(h4:ls.Nodup)(h5: ∀o∈os,o<M/\o∉ls)(h6: ∀o∈ls,o<M):NC M a k (lD os) [.ow true [.int n],.pu (.int M),.pu a,.ow false (lD ls),.un,.un,.un]
theorem t8(n0:Int){M:Nat}{hs:List (List Int)}(ah:1<=M)(ai:M<=7)(h1:1<=hs.length)(h6:hs.length<=6)(hq: ∀h∈hs,g8 M h): ∃d ab,cz gP lz [.int n0] [.int M,.lst (hs.map hD)]=some (d,ab)/\(∃I:List (List Int),d= .tup (I.map hD)/\I.length=hs.length/\ ∀g∈I,g8 M g)/\ ∃n:Int,ab=[.int n]:=by
 apply gW;show Ok lz [.ow true [.int n0],.pu (.int M),.pu (.lst (hs.map hD)),.un,.un,.un,.un] _;unfold lz;have rM:=fE (M:=M) (by omega);have dM:iB [.int M]=some (lD (List.range M)):=by simp[iB,show(M:Int)<100000 by omega,nQ]
 rfl';refine dC (cb 0 M) (NC M (.lst (hs.map hD))) rfl (by rfl') (by simp[cb];omega) (.mk n0 (List.range M) [] rfl (by simp) (by simp) List.nodup_range (by simp) (by simp)) ?_ ?_
 .rintro k hk _ _ ha hl ⟨n,ls,os,h1,h2,h3,h4,h5,h6⟩;have aj:k<M:=by simpa[cb]using hk
  have et:=m_law_take n (lD ls).length (by rw[dU];omega) (by rw[dU];omega);have g1:=Int.emod_nonneg n (show(ls.length:Int)≠0 by omega);have g2:=Int.emod_lt_of_pos n (show(0:Int)<ls.length by omega);obtain⟨j,hj⟩: ∃j:Nat,n%((lD ls).length:Int)=(j:Int):=⟨(n%(ls.length:Int)).toNat,by rw[dU];omega⟩;rw[hj]at et;rw[dU]at hj;have C:j<ls.length:=by omega
  have ex:(lD ls)[j]?=some (.int (ls[j]:Int)):=by simp[lD,C]
  rw[eI];rfl';have af:=gH h4 C;have U:=List.getElem_mem C
  have:=NC.mk (M:=M) (a:= .lst (hs.map hD)) (k:=k+1) (n/((lD ls).length:Int)) (ls.eraseIdx j) (os++[ls[j]]) (by simp[h1]) (by rw[List.length_eraseIdx,if_pos C];omega) (List.nodup_append.mpr ⟨h3,by simp,λ a ha b hb e=>by rw[List.mem_singleton.mp hb]at e;exact(h5 a ha).2 (e▸U)⟩) (uh h4 j) (λ o ho=>(List.mem_append.mp ho).elim (λ z=>⟨(h5 o z).1,λ q=>(h5 o z).2 (List.mem_of_mem_eraseIdx q)⟩) λ z=>by rw[List.mem_singleton.mp z];exact⟨h6 _ U,af⟩) λ o ho=>h6 o (List.mem_of_mem_eraseIdx ho)
  rw[show lD (ls.eraseIdx j)=(lD ls).eraseIdx j from(jh _ ls j).symm]at this
  rw[show lD (os++[ls[j]])=lD os++[.int (ls[j]:Int)]by simp[lD]]at this
  exact this
 rintro _ _ - - ⟨n,ls,os,h1,h2,o2,h4,h5,-⟩;have o1:os.length=M:=by simpa[cb]using h1
 have o3: ∀o∈os,o<M:= λ o ho=>(h5 o ho).1
 rfl'
 let mv:List Int->List Int:= λ h=>d9 (h.map λ c=>((os.getD c.toNat 0:Nat):Int));have ae: ∀h∈hs,g8 M (mv h):= λ h hh=>by
  obtain⟨q1,q2,q3⟩:=hq h hh;have inj:(h.map λ c=>((os.getD c.toNat 0:Nat):Int)).Nodup:=by refine List.Pairwise.map _ (λ a b (aa:a∈h/\b∈h/\a<b) e=>?_) (List.Pairwise.imp_of_mem (λ{a b} ha hb (l:a<b)=>(⟨ha,hb,l⟩:a∈h/\b∈h/\a<b)) q2);have ha:=q3 a aa.1;have hb:=q3 b aa.2.1;have e':=Int.ofNat_inj.mp e;rw[List.getD_eq_getElem?_getD,List.getD_eq_getElem?_getD,List.getElem?_eq_getElem (by omega),List.getElem?_eq_getElem (by omega)]at e';have:=(List.getElem_inj o2).mp e';have:=aa.2.2;omega
  refine⟨?_,og inj,λ c hc=>?_⟩;. intro e;have:=congrArg List.length e;rw[pL,List.length_map]at this;exact q1 (List.eq_nil_of_length_eq_zero this)
  .rw[kS]at hc;obtain⟨x,hx,rfl⟩:=List.mem_map.mp hc;have:=q3 x hx;have C:x.toNat<os.length:=by omega
   rw[List.getD_eq_getElem?_getD,List.getElem?_eq_getElem C];have:=o3 _ (List.getElem_mem C);simp;omega
 refine cw hs hD (λ h=>some (hD (mv h))) rfl (by rfl') (by omega) (λ h hh=>?_) ?_
 .have h7:=(hq h hh).len (by omega) (by omega);rfl';refine cw h .int (λ c=>some (.int ((os.getD c.toNat 0:Nat):Int))) rfl (by rfl') (by omega) (λ c hc=>?_) ?_
  .have hb:=(hq h hh).2.2 c hc;have e:dq (.lst (lD os)) (.int c)=some (.int ((os.getD c.toNat 0:Nat):Int)):=by
    obtain⟨i,rfl⟩: ∃i:Nat,c=(i:Int):=⟨c.toNat,by omega⟩;show jL _ _=_;have:i<os.length:=by omega
    rw[atI_nat _ _ (by rw[dU];omega)];simp[lD,this]
   rfl'
  .rw[List.filterMap_eq_map'];have es:sortI (h.map λ c=>D.int ((os.getD c.toNat 0:Nat):Int))=some ((mv h).map D.int):=by
    have:(h.map λ c=>D.int ((os.getD c.toNat 0:Nat):Int))=(h.map λ c=>((os.getD c.toNat 0:Nat):Int)).map D.int:=by rw[List.map_map];rfl
    unfold sortI;rw[this,kI];exact if_pos (by rw[List.length_map];omega)
   rfl'
 rw[List.filterMap_eq_map',show(hs.map λ h=>hD (mv h))=(hs.map mv).map hD by rw[List.map_map];rfl];rfl'
 refine ck (NS M (.lst (hs.map hD)) hs 0) ((xY (NS M (.lst (hs.map hD)) hs) ?_ 7 hs.length _ (by omega) (.mk n _ _ (hs.map mv) [] (by simp) (by simp) (by simp) λ g hg=>by obtain⟨h,hh,rfl⟩:=List.mem_map.mp hg;exact ae h hh)).mono λ fl o h=>h) ?_
 .rintro k _ ⟨n,l,b,rs,I,r1,r2,r3,r4⟩;have e1:=GG true (rs.map hD);rw[List.isEmpty_map]at e1;rfl'
  refine⟨λ q=>?_,λ q=>⟨rfl,?_⟩⟩
  .have ag:0<rs.length:=List.length_pos_iff.mpr λ z=>by rw[z]at q;cases q
   have et:=m_law_take n (rs.map hD).length (by rw[List.length_map];omega) (by rw[List.length_map];omega);have g1:=Int.emod_nonneg n (show(rs.length:Int)≠0 by omega);have g2:=Int.emod_lt_of_pos n (show(0:Int)<rs.length by omega);obtain⟨j,hj⟩: ∃j:Nat,n%((rs.map hD).length:Int)=(j:Int):=⟨(n%(rs.length:Int)).toNat,by rw[List.length_map];omega⟩;rw[hj]at et;rw[List.length_map]at hj;have C:j<rs.length:=by omega
   have ex:(rs.map hD)[j]?=some (hD rs[j]):=by simp[C]
   refine⟨k-1,by omega,?_⟩;rfl'
   have:=NS.mk (M:=M) (a:= .lst (hs.map hD)) (hs:=hs) (k:=k-1) (n/((rs.map hD).length:Int)) l b (rs.eraseIdx j) (I++[rs[j]]) (by rw[List.length_eraseIdx,if_pos C];omega) (by simp;omega) (λ g hg=>(List.mem_append.mp hg).elim (r3 g) λ z=>by rw[List.mem_singleton.mp z];exact r4 _ (List.getElem_mem C)) λ g hg=>r4 g (List.mem_of_mem_eraseIdx hg)
   rw[<- jh,List.map_append]at this
   exact this
  .have:rs=[]:=by cases rs with
    |nil=>rfl
    |cons=>cases q
   subst this;subst r1;exact .mk n l b [] I rfl r2 r3 r4
 rintro _ ⟨n,l,b,rs,I,r1,r2,r3,r4⟩;rfl';exact⟨_,_,rfl,rfl,⟨I,rfl,r2,r3⟩,n,rfl⟩
theorem vC (hl:δ.length=lo) (h:Ok fi δ fun it δ'=>Ok (bB lo own (pure it) turn) δ' Q):Ok (bB lo own fi turn) δ Q:= by
 obtain ⟨it,δ',e,z⟩:=h
 obtain ⟨xs,δ2,e2,q⟩:=z
 refine ⟨xs,δ2,?_,q⟩
 unfold bB at e2 ⊢
 obtain ⟨u,δ3,e3,e4⟩:=bind_some e2
 obtain ⟨it',δ4,e5,e6⟩:=bind_some e4
 obtain ⟨rfl,rfl⟩:=aZ e5
 have e7:δ3=δ':= by
  unfold j6 at e3
  split at e3
  .cases e3;rfl
  .cases e3
 subst e7
 have:j6 lo δ=some ((),δ):=by unfold j6;rw [if_pos hl]
 simp [M.bind_def,this,e] at e6 ⊢
 exact e6
theorem mJ{M:Nat}(U:1<=M)(aa:M<=7)(Z:Nat)(hZ:Z<=100)(n:Int){a1 a2 o C I J:Jt.Slot}{fi:Jt.M md}{Q:List D->DS->Prop}
  (hi:Ok fi [.ow true [.int n],a1,a2,.pu (.int M),o,C,I,J] λ it ab=>it=bC (cb 0 Z)/\ab=[.ow true [.int n],a1,a2,.pu (.int M),o,C,I,J])
  (hQ: ∀(hs:List (List Int))(n:Int),hs.length=Z->(∀h∈hs,g8 M h)->Q (hs.map hD) [.ow true [.int n],a1,a2,.pu (.int M),o,C,I,J]):
  Ok (bB 8 1 fi (bF (bT 8) (pure true) (do let _<- bO 0;dg 0 2 (cz j3 k_) (aR (aV 3) (pure []))))) [.ow true [.int n],a1,a2,.pu (.int M),o,C,I,J] Q:=by
 refine dC (cb 0 Z) (λ k acc δ=> ∃(n:Int) (hs:List (List Int)),acc=hs.map hD/\δ=[.ow true [.int n],a1,a2,.pu (.int M),o,C,I,J]/\hs.length=k/\ ∀h∈hs,g8 M h) rfl hi (by simp[cb];omega) ⟨n,[],rfl,rfl,rfl,by simp⟩ ?_ ?_
 .rintro k hk acc _ ha hl ⟨n,hs,rfl,rfl,h1,h2⟩;obtain⟨d,ae,eh,⟨h,rfl,hh⟩,n',rfl⟩:=mB n U aa;rfl';refine⟨n',hs++[h],by simp,rfl,by simp[h1],λ g hg=>?_⟩;rcases List.mem_append.mp hg with z|z
  .exact h2 g z
  .rw[List.mem_singleton.mp z];exact hh
 .rintro xs _ hx hl ⟨n,hs,rfl,rfl,h1,h2⟩;exact hQ hs n (by rw[h1];simp[cb]) h2
theorem qK(n0:Int){P Z:Nat}(ae:1<=P)(af:P<=7)(ag:1<=Z)(ah:Z<=6): ∃d o,cz ub B2 [.int n0] [.int P,.int Z]=some (d,o)/\LQ d o:=by
 apply gW;show Ok B2 [.ow true [.int n0],.pu (.int P),.pu (.int Z),.un,.un,.un,.un,.un] _;unfold B2
 have pick: ∀(n:Int){P:Nat},1<=P-> ∃M:Nat,dY (.int 1) (.int (n%P))=some (.int M)/\1<=M/\M<=P:= λ n P hP=>by
  have h1:=Int.emod_nonneg n (show(P:Int)≠0 by omega);have h2:=Int.emod_lt_of_pos n (show(0:Int)<P by omega);refine⟨(1+n%(P:Int)).toNat,?_,by omega,by omega⟩;show some (D.int (1+n%(P:Int)))=_;rw[Int.toNat_of_nonneg (by omega)]
 obtain⟨M,hM,aa,J⟩:=pick n0 ae;have J:M<=7:=by omega
 obtain⟨N,hN,ab,ai⟩:=pick (n0/P) ag;have t1:=m_law_take n0 P (by omega) (by omega);have t2:=m_law_take (n0/P) Z (by omega) (by omega)
 have fin: ∀{hs:List (List Int)}(n:Int),1<=hs.length->hs.length<=6->(∀h∈hs,g8 M h)-> ∃d o,cz gP lz [.int n] [.int M,.lst (hs.map hD)]=some (d,o)/\LQ (.tup [.int M,d]) o:= λ n h1 h6 hq=>by
  obtain⟨d,o,e,⟨gs,rfl,g1,g2⟩,U,rfl⟩:=t8 n aa J h1 h6 hq
  exact⟨_,_,e,M,gs,U,rfl,rfl,by omega,by omega,by omega,g2⟩
 rfl';generalize n0/P/Z%5=way;generalize n0/P/Z/5=n
 refine gU (decide (way=0/\2<M)) ?_ ?_ ?_
 .have e0:=fj false way 0;by_cases q:way=0
  .rw[decide_eq_true q]at e0;have e1:yO (.int M) (.int 2)=some (.bl (decide (way=0/\2<M))):=by
    show some (D.bl _)=_;refine congrArg (λ b=>some (D.bl b)) ?_;rw[decide_eq_decide];omega
   rfl'
  .rw[decide_eq_false q]at e0;rw[decide_eq_false (λ z=>q z.1)];rfl'
 .intro hw;obtain⟨hw,aj⟩:=of_decide_eq_true hw;obtain⟨d,o,eb,⟨bs,rfl,b3,b6,bq⟩,U,rfl⟩:=rR n (by omega) J
  rfl';refine vC rfl ?_
  obtain⟨W,hW,ak,ao⟩: ∃W:Nat,jq [.int 0,.int ((Z:Int) -((bs.map hD).length:Int))]=some (.int W)/\bs.length+W<=6/\dY (.int 1) (.int W)=some (.int (1+W:Nat)):=by
   refine⟨Z-bs.length,?_,by omega,?_⟩;. show some (D.int _)=_;refine congrArg (λ z:Int=>some (D.int z)) ?_;rw[List.length_map];split <;> omega
   .show some (D.int _)=_;refine congrArg (λ z:Int=>some (D.int z)) ?_;omega
  obtain⟨V,hV,aq⟩: ∃V:Nat,U%((1+W:Nat):Int)=(V:Int)/\V<1+W:=by
   have h1:=Int.emod_nonneg U (show((1+W:Nat):Int)≠0 by omega)
   have h2:=Int.emod_lt_of_pos U (show(0:Int)<(1+W:Nat) by omega)
   exact⟨(U%((1+W:Nat):Int)).toNat,by omega,by omega⟩
  have et:=m_law_take U (1+W:Nat) (by omega) (by omega);rw[hV]at et;have rV:=fE (M:=V) (by omega)
  rfl';refine mJ aa J V (by omega) _ (by rfl') λ es m h1 h2=>?_
  obtain⟨d,o,e,z⟩:=fin (hs:=bs++es) m (by simp;omega) (by simp;omega) λ h hh=>(List.mem_append.mp hh).elim (bq h) (h2 h)
  have hc:uw (.lst (bs.map hD)) (.lst (es.map hD))=some ((bs++es).map hD):=by rw[List.map_append];exact if_pos (by simp;omega)
  have ec:L0 (.lst ((bs++es).map hD)) none (some 6)=some (.lst ((bs++es).map hD)):=by
   refine congrArg (λ z=>some (D.lst z)) ?_;unfold cutD
   rw [HT.sIx_none,show (some (6:Int))=some ((6:Nat):Int) from rfl,HT.sIx_nat,List.drop_zero,List.length_map,List.take_of_length_le]
   rw [List.length_map,List.length_append];simp;omega
  rfl';exact⟨_,rfl,_,_,rfl,rfl,z⟩
 intro _;refine gU (decide (way=1)) ?_ ?_ ?_
 .have e0:=fj false way 1;rfl'
 .intro _;have rN:=fE (M:=N) (by omega);rfl';refine mJ aa J N (by omega) _ (by rfl') λ es m h1 h2=>?_
  obtain⟨d,o,e,z⟩:=fin (hs:=es) m (by omega) (by omega) h2
  rfl';exact⟨_,rfl,_,_,rfl,rfl,z⟩
 intro _;obtain⟨d,o,eg,⟨hs,rfl,g1,g2⟩,U,rfl⟩:=ui n aa J ab (Z:=N) (by omega);obtain⟨d,o,e,z⟩:=fin (hs:=hs) U (by omega) (by omega) g2
 rfl';exact⟨_,_,rfl,rfl,z⟩
end K23
namespace K23
open PySem L2 Jt
variable {hs:List (List Int)} {M:Nat}
theorem wb: ∀(hs:List (List Int))(n:Nat),my n (hs.map hD)=(List.range hs.length).map λ i=> .tup [.int ((n+i:Nat):Int),hD (G hs i)]:=by intro hs;induction hs with
 |nil=>intro n;rfl
 |cons h r o=>intro n;show D.tup [.int n,hD h]::my (n+1) (r.map hD)=_;rw[o,List.length_cons,List.range_succ_eq_map,List.map_cons,List.map_map];congr 1;refine List.map_congr_left λ i _=>?_;simp[G];omega
theorem wk(I:hs.length<=6)(c:Nat)(J:c<M):bg oA xt [bW M hs,.int c]=some (.tup (lD (vc hs c))):=by
 apply bJ;show Ok xt [.pu (bW M hs),.pu (.int c),.un,.un] _;refine ck (λ o=>o=[.pu (bW M hs),.pu (.int c),.pu (.int M),.pu (.tup (hs.map hD))]) ?_ ?_;. simp[bW]
 rintro _ rfl;have C:bg lu ka [.int (c:Int),.int (M:Int)]=some (.bl true):=by rw[t6];simp[cm];omega
 refine gU false ?_ (by simp) λ _=>?_;. simp[bh,C,eL]
 simp only[bL,jv,d3,bU];refine cw (List.range hs.length) (λ(i:Nat)=> .tup [.int (i:Int),hD (G hs i)]) (λ i=>if decide ((c:Int)∈G hs i)=true then some (.int (i:Int))else none) rfl ?_ (by simp;omega) (λ i U=>?_) ?_;. have:=wb hs 0;simp[qQ,um,this]
 .by_cases q:(c:Int)∈G hs i <;> simp[pF,q]
 .rw[cY];simp[dQ,lP,lD,vc,co,G]
theorem jK(hs:List (List Int)):cj [.tup (hs.map hD)]=some (.int hs.length):=by simp[cj]
theorem yt{a n:Nat}(h:a<n):cm n (.int a)=true:=by simp[cm];omega
theorem xC{k:Nat}(h:k<H.length):dq (.tup (lD H)) (.int k)=some (.int ((H.getD k 0:Nat):Int)):=by show jL (lD H) k=_;rw[atI_nat (lD H) k (by rw[dU];exact h)];simp[lD,h]
noncomputable def chg(x y:Nat)(l:List Nat):List Nat:=l.map λ z=>if z=x then y else z
noncomputable def lnk(l:List Nat)(a b:Nat):List Nat:=chg (max (l.getD a 0) (l.getD b 0)) (min (l.getD a 0) (l.getD b 0)) l
theorem NY(h6:l.length<=6){a b:Nat}(ha:a<l.length)(hb:b<l.length):bg qF uC [.tup (lD l),.int (a:Int),.int (b:Int)]=some (.tup (lD (lnk l a b))):=by
 apply bJ;show Ok uC [.pu (.tup (lD l)),.pu (.int (a:Int)),.pu (.int (b:Int)),.un,.un] _;unfold uC;have J:=xC ha;have U:=xC hb;have mn:kD [.int ((l.getD a 0:Nat):Int),.int ((l.getD b 0:Nat):Int)]=some (.int ((min (l.getD a 0) (l.getD b 0):Nat):Int)):=by simp only[kD];congr 2;omega
 have mx:jq [.int ((l.getD a 0:Nat):Int),.int ((l.getD b 0:Nat):Int)]=some (.int ((max (l.getD a 0) (l.getD b 0):Nat):Int)):=by simp only[jq];congr 2;omega
 have si:bH (.tup (lD l))=some (bC (l.map λ(i:Nat)=>D.int (i:Int))):=rfl;unfold lnk;generalize min (l.getD a 0) (l.getD b 0)=o at*;generalize max (l.getD a 0) (l.getD b 0)=C at*;generalize((l.getD a 0:Nat):Int)=ya at*;generalize((l.getD b 0:Nat):Int)=yb at*;generalize D.tup (lD l)=ld at*;refine ck (λ I=>I=[.pu ld,.pu (.int (a:Int)),.pu (.int (b:Int)),.pu (.int (o:Int)),.un]) (by simp[J,U,mn]) ?_;rintro _ rfl;refine ck (λ I=>I=[.pu ld,.pu (.int (a:Int)),.pu (.int (b:Int)),.pu (.int (o:Int)),.pu (.int (C:Int))]) (by simp[J,U,mx]) ?_;rintro _ rfl;simp only[bL,jv,d3,bU];refine cw l (λ(i:Nat)=> .int (i:Int)) (λ z=>some (.int ((if z=C then o else z:Nat):Int))) rfl ?_ (by omega) (λ z _=>?_) ?_;. simp[si]
 .by_cases q:z=C;. simp[l9,q]
  .simp[l9,q]
 .simp[fU,chg,lD]
structure Ni (n:Nat) (l:List Nat) (T:List Pr):Prop where
 len:l.length=n
 eq:∀ a b,a < n->b < n->(l.getD a 0=l.getD b 0 ↔ fG T a b)
theorem FH(n:Nat):Ni n (List.range n) []:=⟨List.length_range,λ a b o C=>by simp[List.getElem?_range o,List.getElem?_range C];exact⟨λ h=>by cases h;exact .refl _,λ h=>h.nil⟩⟩
theorem w8{x y a:Nat}{l:List Nat}(o:a<l.length):(chg x y l).getD a 0=if l.getD a 0=x then y else l.getD a 0:=by unfold chg;simp[List.getElem?_eq_getElem o]
theorem Ni.lnk(h:Ni n l T){u v:Nat}(hu:u<n)(hv:v<n):Ni n (lnk l u v) (T++[(u,v)]):=by
 refine⟨by unfold K23.lnk chg;rw[List.length_map];exact h.len,λ a b I J=>?_⟩;have e:fG (T++[(u,v)]) a b↔fG ((u,v)::T) a b:=⟨fG.mono λ e he=>by
  rcases List.mem_append.mp he with z|z
  .exact List.mem_cons_of_mem _ z
  .rw[List.mem_singleton.mp z];exact List.mem_cons_self,fG.mono λ e he=>by
  rcases List.mem_cons.mp he with z|z
  .rw[z];exact List.mem_append.mpr (.inr (List.mem_singleton.mpr rfl))
  .exact List.mem_append.mpr (.inl z)⟩;rw[e,u7,<- h.eq a b I J,<- h.eq a u I hu,<- h.eq v b hv J,<- h.eq a v I hv,<- h.eq u b hu J];unfold K23.lnk;rw[w8 (by rw[h.len];exact I),w8 (by rw[h.len];exact J)];generalize l.getD a 0=A;generalize l.getD b 0=B;generalize l.getD u 0=U;generalize l.getD v 0=V;by_cases q:U<=V
 .rw[Nat.max_eq_right q,Nat.min_eq_left q];by_cases C:A=V
  .rw[if_pos C];by_cases o:B=V;. rw[if_pos o];omega
   .rw[if_neg o];omega
  .rw[if_neg C];by_cases o:B=V;. rw[if_pos o];omega
   .rw[if_neg o];omega
 .rw[Nat.max_eq_left (by omega),Nat.min_eq_right (by omega)];by_cases C:A=U
  .rw[if_pos C];by_cases o:B=U;. rw[if_pos o];omega
   .rw[if_neg o];omega
  .rw[if_neg C];by_cases o:B=U;. rw[if_pos o];omega
   .rw[if_neg o];omega
end K23
namespace K23
open PySem L2 Jt
noncomputable def pD(e:Pr):D:= .tup [.int (e.1:Int),.int (e.2:Int)]
noncomputable def tD(X:List Pr):D:= .tup (X.map pD)
theorem Dh(k:Nat)(ls:List Nat):kq false (.int k) (.lst (lD ls))=some (.bl (decide (k∈ls))):=ky false k ls
theorem Dz{sm:List Nat}{X:List Pr}{f:List Nat}{j:Nat}(h:j<X.length):K23.rdH sm (X.take (j+1)) f=stH sm (K23.rdH sm (X.take j) f) X[j]:=by unfold K23.rdH;rw[List.take_succ_eq_append_getElem h,List.foldl_append];rfl
theorem Af(o:sm≠[])(i j:Nat):(K23.rdH sm (X.take j) (pE sm X i (sm.take 1))).length<=sm.length:=by
 obtain⟨x,r,rfl⟩: ∃x r,sm=x::r:=by cases sm with
  |nil=>exact absurd rfl o
  |cons x r=>exact⟨x,r,rfl⟩
 have I:JH (x::r) X x ((x::r).take 1):=⟨by simp,λ a C=>by
  have:a=x:=by simpa using C
  rw[this];exact List.mem_cons_self,by simp,λ a C=>by
  have:a=x:=by simpa using C
  rw[this];exact .refl _⟩;have h:=JH.rd (Q:=X.take j) (λ e he=>List.mem_of_mem_take he) (I.it i);exact xM h.nd h.sub
theorem Mi(a b:Bool):f9 true (.bl a) (.bl b)=some (.bl (a !=b)):=by cases a <;> cases b <;> rfl
theorem v3(ag:sm.length<=6):bg xy tm [tD X,.lst (lD sm)]=some (.bl (lg X sm)):=by
 apply bJ;show Ok tm [.pu (tD X),.pu (.lst (lD sm)),.un,.un,.un,.un] _;unfold tm;have e0:=jd false (lD sm);have i1:= λ k=>Dh k sm;have si:bH (tD X)=some (bC (X.map pD)):=rfl;have sl:L0 (.lst (lD sm)) none (some 1)=some (.lst (lD (sm.take 1))):=by
  show some (D.lst (cutD (lD sm) none (some ((1:Nat):Int))))=_;rw[CV,G9]
 have ln:cj [.lst (lD sm)]=some (.int (sm.length:Int)):=by simp[cj,lD]
 have rn:dz [.int (sm.length:Int)]=some (bC (lD (List.range sm.length))):=by rw[fE (by omega),nQ]
 by_cases o:sm=[]
 .subst o;have:f9 false (.lst (lD [])) (.lst [])=some (.bl true):=rfl;rw[show lg X []=true by simp[lg]];refine eP ?_;rfl'
 .have J:(lD sm).isEmpty=false:=by cases sm with
   |nil=>exact absurd rfl o
   |cons _ _=>rfl
  rw[J,if_neg (by simp)]at e0;unfold lg;rw[if_neg o];generalize tD X=U at*;generalize ah:D.lst (lD sm)=sd at*;refine gU false ?_ (by simp) λ _=>?_;. rfl'
  refine ck (λ C=>C=[.pu U,.pu sd,.pu (.lst (lD (sm.take 1))),.un,.un,.un]) (by rfl') ?_;rintro _ rfl;rw[cn];refine gg (lD (List.range sm.length)) (λ i C=> ∃a b c:Jt.Slot,C=[.pu U,.pu sd,.pu (.lst (lD (pE sm X i (sm.take 1)))),a,b,c]) ?_ ⟨_,_,_,rfl⟩ ?_ ?_;. rfl'
  .rintro i hi _ ⟨a,b,c,rfl⟩;have aa:(lD (List.range sm.length))[i]= .int (i:Int):=by simp[lD]
   rw[aa];refine oSet rfl ?_;simp only[List.set_cons_succ,List.set_cons_zero];refine gg (X.map pD) (λ j C=> ∃b c:Jt.Slot,C=[.pu U,.pu sd,.pu (.lst (lD (K23.rdH sm (X.take j) (pE sm X i (sm.take 1))))),.pu (.int (i:Int)),b,c]) ?_ ⟨b,c,rfl⟩ ?_ ?_;. rfl'
   .rintro j hj _ ⟨b,c,rfl⟩;have ab:j<X.length:=by simpa using hj
    have ae:(X.map pD)[j]=pD X[j]:=by simp
    rw[ae,Dz ab];have hl:=Af (X:=X) o i j;generalize K23.rdH sm (X.take j) (pE sm X i (sm.take 1))=f at*;generalize X[j]=e at*;have f1:=Dh e.1 f;have f2:=Dh e.2 f;have g1:=i1 e.1;have g2:=i1 e.2;have bb:=Mi (decide (e.1∈f)) (decide (e.2∈f));have ct:uw (.lst (lD f)) (.lst [.int ((if e.1∈f then e.2 else e.1:Nat):Int)])=some (lD (f++[if e.1∈f then e.2 else e.1])):=by show K_ _ _=_;unfold K_;rw[if_pos (by simp[lD];omega)];simp[lD]
    have I:stH sm f e=if(decide (e.1∈f)!=decide (e.2∈f))&&decide (e.1∈sm)&&decide (e.2∈sm)then f++[if e.1∈f then e.2 else e.1]else f:=rfl;have pick:dq (.lst [.int (e.1:Int),.int (e.2:Int)]) (.int (if decide (e.1∈f)=true then 1 else 0))=some (.int ((if e.1∈f then e.2 else e.1:Nat):Int)):=by by_cases q:e.1∈f <;> simp[q] <;> rfl
    show Ok (fQ 2 _ (.tup [.int (e.1:Int),.int (e.2:Int)])) _ _;generalize stH sm f e=f' at*;generalize hf:D.lst (lD f)=fd at*;generalize(if e.1∈f then e.2 else e.1)=v at*;generalize decide (e.1∈f)=q1 at*;generalize decide (e.2∈f)=q2 at*;generalize decide (e.1∈sm)=q3 at*;generalize decide (e.2∈sm)=q4 at*;refine oTg rfl (oTc (oSet rfl (oTc (oSet rfl (oTn ?_)))));simp only[List.set_cons_succ,List.set_cons_zero];refine fS (λ b C=>b=((q1 !=q2)&&q3&&q4)/\C=[.pu U,.pu sd,.pu fd,.pu (.int (i:Int)),.pu (.int (e.1:Int)),.pu (.int (e.2:Int))]) ?_ ?_ ?_;. cases hq:(q1 !=q2) <;> rw[hq]at bb <;> cases q3 <;> rfl'
    .rintro _ ⟨h,rfl⟩;rw[if_pos h.symm]at I;rfl';exact⟨_,_,by rw[I];rfl⟩
    .rintro _ ⟨h,rfl⟩;rw[if_neg (by rw[<- h];simp)]at I;refine bU.mpr ⟨.pu (.int (e.1:Int)),.pu (.int (e.2:Int)),?_⟩;rw[I,hf]
   .rintro _ ⟨b,c,rfl⟩;have:X.take (X.map pD).length=X:=by simp
    rw[this];exact⟨_,_,_,rfl⟩
  .rintro _ ⟨a,b,c,rfl⟩;have:(lD (List.range sm.length)).length=sm.length:=by simp[lD]
   rw[this];generalize pE sm X sm.length (sm.take 1)=f;have lf:cj [.lst (lD f)]=some (.int (f.length:Int)):=by simp[cj,lD]
   have af:cQ false (.int (f.length:Int)) (.int (sm.length:Int))=some (.bl (f.length==sm.length)):=by
    have:cQ false (.int (f.length:Int)) (.int (sm.length:Int))=some (.bl (decide ((f.length:Int)=(sm.length:Int)))):=by simp[cQ,flat,ke]
    rw[this];refine congrArg (λ b:Bool=>some (D.bl b)) ?_;rw[Bool.eq_iff_iff,decide_eq_true_eq,beq_iff_eq];omega
   generalize D.lst (lD f)=fd at*;rfl'
noncomputable def vM:List D:=[.non,.bl true,.bl false,.int (-1),.int 0,.int 1,.int 7,.int 10,.str "",.str "0",.str "none",.tup [],.tup [.int 0],.tup [.int 0,.int 1],.tup [.int 1,.int 0],.tup [.int 0,.int 0],.tup [.int 0,.bl true],.lst [.int 0],.dct,
 .tup [.tup [.int 0]],.tup [.tup [.int 0,.int 1]],.lst [.tup [.int 0,.int 1]],.int (10 ^ 39),.tup [.int 0,.int 10],.tup [.int 0,.int (-1)],.tup [.tup [],.tup []],.tup [.tup [.int 0,.int 1],.tup [.int 0,.int 1]],.tup [.tup [.int 0,.int 1],.non]]
variable {hs:List (List Int)} {M:Nat}
noncomputable def dJ(n:Nat):D->Bool
 | .tup [.int a,.int b]=>decide (0<=a)&&decide (a<b)&&decide (b<(n:Int))
 |_=>false
noncomputable def sG(n:Nat):D->Bool
 | .tup [.int a,.int b]=>(decide (0<=a)&&decide (a<(n:Int)))&&(decide (0<=b)&&decide (b<(n:Int)))
 |_=>false
theorem kv(h:sG n x=true): ∃a b,x= .tup [.int a,.int b]/\0<=a/\a<n/\0<=b/\b<n:=by
 unfold sG at h;split at h;. rename_i a b;simp at h;exact⟨a,b,rfl,h.1.1,h.1.2,h.2.1,h.2.2⟩
 .cases h
theorem kz{n:Nat}{p:D}(h:cm n p=true): ∃i,p= .int i:=by cases p <;> first|exact⟨_,rfl⟩|cases h
theorem zP{n:Nat}: ∀{xs:List D},kG n (.tup xs)=true->sG n (.tup xs)=decide (xs.length=2)
 |[],_=>rfl
 |[p],_=>by cases p <;> rfl
 |[p,q],h=>by
  have h:(cm n p&&(cm n q&&true))=true:=h
  simp only[Bool.and_eq_true]at h;obtain⟨a,rfl⟩:=kz h.1;obtain⟨b,rfl⟩:=kz h.2.1
  exact(Bool.and_eq_true ..).mpr ⟨h.1,h.2.1⟩
 |p::q::r::s,_=>by
  have:sG n (.tup (p::q::r::s))=false:=Bool.eq_false_iff.mpr λ z=>by obtain⟨a,b,e,_⟩:=kv z;cases e
  rw[this];simp
theorem zf{n:Nat}{x:D}(h:dJ n x=true): ∃a b,x= .tup [.int a,.int b]:=by
 unfold dJ at h;split at h;. exact⟨_,_,rfl⟩
 .cases h
theorem rh{n:Nat}{x:D}(h: ∀a b,x≠ .tup [.int a,.int b]):dJ n x=false:=Bool.eq_false_iff.mpr λ z=>by obtain⟨a,b,e⟩:=zf z;exact h a b e
theorem mU{p:D}(h:isInt p=true): ∃i,p= .int i:=by cases p <;> first|exact⟨_,rfl⟩|cases h
theorem PJ{n:Nat}{x:D}(h:Short x):bg Ho Ax [x,.int n]=some (.bl (sG n x)):=by apply bJ;show Ok Ax [.pu x,.pu (.int n)] _;unfold Ax;have e:=MM n h;cases q:kG n x with
 |false=>
  rw[q]at e;have:sG n x=false:=by cases C:sG n x with
   |false=>rfl
   |true=>obtain⟨a,b,rfl,I,J,U,h4⟩:=kv C;simp[kG,cm,I,J,U,h4]at q
  rw[this];simp[bh,e]
 |true=>rw[q]at e;cases x with
  |tup xs=>
   have ln:cj [.tup xs]=some (.int xs.length):=by simp[cj]
   have o:cQ false (.int xs.length) (.int 2)=some (.bl (decide (xs.length=2))):=by
    have:cQ false (.int xs.length) (.int 2)=some (.bl (decide ((xs.length:Int)=2))):=by simp[cQ,flat,ke]
    rw[this];refine congrArg (λ b:Bool=>some (D.bl b)) ?_;rw[decide_eq_decide];omega
   rw[zP q];simp[bh,e,ln,o]
  |_=>cases q
theorem N_(m:Int){x:D}(h:Short x):bg pW nD [bW m hs,x]=some (.bl (dJ hs.length x)):=by apply bJ;show Ok nD [.pu (bW m hs),.pu x] _;unfold nD;have e:=PJ (n:=hs.length) h;have C:=fw m hs;have I:=jK hs;cases q:sG hs.length x with
 |false=>
  rw[q]at e;have:dJ hs.length x=false:=by cases o:dJ hs.length x with
   |false=>rfl
   |true=>
    unfold dJ at o;split at o;. simp at o;simp[sG]at q;omega
    .cases o
  rw[this];simp[bh,e,C,I]
 |true=>
  rw[q]at e;obtain⟨a,b,rfl,J,h2,h3,U⟩:=kv q;have x0:dq (.tup [.int a,.int b]) (.int 0)=some (.int a):=rfl;have x1:dq (.tup [.int a,.int b]) (.int 1)=some (.int b):=rfl;have lt:sv (.int a) (.int b)=some (.bl (decide (a<b))):=rfl;have ep:dJ hs.length (.tup [.int a,.int b])=decide (a<b):=by simp[dJ,J,U]
  rw[ep];simp[bh,e,C,I,x0,x1,lt]
theorem M5{fa fb fc fd:Jt.M D}{δ:DS}{p q r:Bool}{Q:D->DS->Prop}(h:Ok fa δ λ x o=>o=δ/\Ok fb δ λ y o=>o=δ/\zT x y=some (.bl p)/\Ok fc δ λ w o=>o=δ/\sv y w=some (.bl q)/\Ok fd δ λ v o=>o=δ/\sv w v=some (.bl r))(k:Q (.bl (p&&q&&r)) δ):Ok (Jt.Tu.chn3 fa fb fc fd) δ Q:=by
 obtain⟨x,_,e1,rfl,y,_,e2,rfl,h1,w,_,e3,rfl,h2,v,_,e4,rfl,h3⟩:=h;unfold Jt.Tu.chn3;refine oBind (oV e1 (oBind (oV e2 (oBind (oLift h1 ?_)))))
 cases p;. exact oPure k
 refine oBind (oV e3 (oBind (oLift h2 ?_)));cases q;. exact oPure k
 exact oBind (oV e4 (oLift h3 k))
theorem oW(m:Int){x:D}(h:Short x):bg tG wD [bW m hs,x]=some (.bl (dJ hs.length x)):=by
 apply bJ;show Ok wD [.pu (bW m hs),.pu x] _;unfold wD;have e1:=fw m hs;have e2:=jK hs;generalize bW m hs=lay at*;refine eP ?_;by_cases ht: ∃xs,x= .tup xs
 .obtain⟨xs,rfl⟩:=ht;by_cases I:xs.length=2
  .match xs,I with
   |[p,q],_=>
   have all:jn [.lst ([p,q].filterMap λ d=>some (D.bl (isInt d)))]=some (.bl (isInt p&&isInt q)):=by simp[jn,boolsOf]
   have U:cQ true (.int (([p,q]:List D).length:Int)) (.int 2)=some (.bl false):=rfl
   rfl';refine lY [p,q] (λ d=>some (.bl (isInt d))) rfl (by rfl') (by simp) (λ d _=>?_) ?_
   .have:=i5 d;rfl'
   .cases hw:(isInt p&&isInt q)with
    |false=>
     have J:dJ hs.length (.tup [p,q])=false:=rh λ a b e=>by cases e;cases hw
     rw[hw]at all;rw[J];rfl'
    |true=>
     obtain⟨a,rfl⟩:=mU (Bool.and_eq_true_iff.mp hw).1;obtain⟨b,rfl⟩:=mU (Bool.and_eq_true_iff.mp hw).2
     rw[hw]at all;rfl';refine M5 (p:=decide (0<=a)) (q:=decide (a<b)) (r:=decide (b<(hs.length:Int))) ?_ ?_;. rfl'
     .rfl'
  .have J:dJ hs.length (.tup xs)=false:=rh λ a b e=>by cases e;exact I rfl
   have U:=fj true (xs.length:Int) 2;rw[decide_eq_false (by omega)]at U;rw[J];rfl'
 .have J:dJ hs.length x=false:=rh λ a b e=>ht ⟨_,e⟩
  have C:(!cx .tup x)=true:=by cases x <;> first|rfl|exact absurd ⟨_,rfl⟩ ht
  rw[J];rfl'
end K23
namespace K23
open PySem L2 Jt
open Jt.Tu (cK lex_trans o9 zX iE l7 jQ sortSetU dLtU)
noncomputable def kp(e:Pr):List Int:=[(e.1:Int),(e.2:Int)]
theorem KG(h:kp e=kp f):e=f:=by injection h with C o;injection o with o _;ext <;> omega
theorem tX: ∀{xs:List D},xs.all (dJ n)=true-> ∃X:List Pr,xs=X.map pD/\ ∀e∈X,e.1<e.2/\e.2<n
 |[],_=>⟨[],rfl,λ e he=>nomatch he⟩
 |x::xs,h=>by
  rw[List.all_cons,Bool.and_eq_true]at h;obtain⟨X,rfl,o⟩:=tX h.2;have hx:=h.1;unfold dJ at hx;split at hx
  .rename_i a b;simp at hx;refine⟨(a.toNat,b.toNat)::X,?_,λ e he=>?_⟩
   .rw[List.map_cons];unfold pD;have C:a.toNat=a:=by omega
    have I:b.toNat=b:=by omega
    rw[C,I]
   .rcases List.mem_cons.mp he with rfl|he
    .omega
    .exact o e he
  .cases hx
theorem Hx{e:Pr}(h:e.1<e.2/\e.2<n):dJ n (pD e)=true:=by simp[dJ,pD];omega
noncomputable def JY:List (List Int)->Bool
 |a::b::r=>cK a b&&JY (b::r)
 |_=>true
theorem su: ∀{l:List (List Int)},JY l=true↔zX l
 |[]=>⟨λ _=> .nil,λ _=>rfl⟩
 |[a]=>⟨λ _=>List.pairwise_singleton _ _,λ _=>rfl⟩
 |a::b::r=>by
  unfold JY;rw[Bool.and_eq_true,su];constructor
  .rintro⟨o,C⟩;refine List.pairwise_cons.mpr ⟨λ z hz=>?_,C⟩;rcases List.mem_cons.mp hz with rfl|hz
   .exact o
   .exact lex_trans o ((List.pairwise_cons.mp C).1 z hz)
  .intro h;have h':=List.pairwise_cons.mp h;exact⟨h'.1 b List.mem_cons_self,h'.2⟩
theorem D0: ∀X Y:List Pr,jo (X.map pD) (Y.map pD)=(X.zip Y).map λ p=> .tup [pD p.1,pD p.2]
 |[],Y=>by cases Y <;> simp[jo]
 |x::X,[]=>by simp[jo]
 |x::X,y::Y=>by show D.tup [pD x,pD y]::jo (X.map pD) (Y.map pD)=_;rw[D0 X Y];rfl
theorem zF(xs:List D)(k:Nat):cutD xs (some k) none=xs.drop k:=by
 unfold cutD;have I:HT.sIx xs.length xs.length none=xs.length:=rfl;have C:HT.sIx xs.length 0 (some k)=min k xs.length:=by simp[HT.sIx];omega
 rw[C];by_cases h:k<=xs.length;. rw[Nat.min_eq_left h];exact List.take_of_length_le (by rw[List.length_drop];omega)
 .rw[Nat.min_eq_right (by omega),List.drop_eq_nil_of_le (Nat.le_refl _),List.drop_eq_nil_of_le (by omega),List.take_nil]
theorem xN: ∀X:List Pr,((X.zip (X.drop 1)).map λ p=>cK (kp p.1) (kp p.2)).all id=JY (X.map kp)
 |[]=>rfl
 |[a]=>rfl
 |a::b::r=>by have o:=xN (b::r);rw[List.drop_succ_cons,List.drop_zero,List.zip_cons_cons,List.map_cons,List.all_cons];rw[List.drop_succ_cons,List.drop_zero]at o;rw[o];rfl
theorem M6(h:X.length<=60):bg mW u_ [tD X]=some (.bl (JY (X.map kp))):=by
 apply bJ;show Ok u_ [.pu (tD X)] _;unfold u_;have sl:L0 (tD X) (some 1) none=some (tD (X.drop 1)):=by show some (D.tup (cutD (X.map pD) (some ((1:Nat):Int)) none))=_;rw[zF,<- List.map_drop];rfl
 have o:rp [tD X,tD (X.drop 1)]=some (bC ((X.zip (X.drop 1)).map λ p=> .tup [pD p.1,pD p.2])):=by rw[<- D0];rfl
 simp;refine cw (X.zip (X.drop 1)) (λ p=> .tup [pD p.1,pD p.2]) (λ p=>some (.bl (cK (kp p.1) (kp p.2)))) rfl ?_ (by simp;omega) (λ p _=>?_) ?_;. generalize tD (X.drop 1)=t1 at*;simp[sl,o]
 .have lt:dLtU (pD p.1) (pD p.2)=some (.bl (cK (kp p.1) (kp p.2))):=rfl;simp[lt]
 .rw[List.filterMap_eq_map'];have:jn [.lst ((X.zip (X.drop 1)).map λ p=>D.bl (cK (kp p.1) (kp p.2)))]=some (.bl (JY (X.map kp))):=by show(boolsOf ((X.zip (X.drop 1)).map λ p=>D.bl (cK (kp p.1) (kp p.2)))).map _=_;rw[h_,<- xN];rfl
  rw[this];simp
theorem Mv(n:Nat)(a b:List Int):dI (n+2) (Jt.Tu.tD a) (Jt.Tu.tD b)=some (decide (a=b)):=by
 have h:=uk n a b;unfold Jt.Tu.tD dI;rw[h];by_cases e:a=b;. subst e;simp
 .have:(decide (a.take b.length=b.take a.length)&&(a.map D.int).length==(b.map D.int).length)=false:=by
   rw[Bool.and_eq_false_iff];by_cases C:a.length=b.length;. left;rw[decide_eq_false_iff_not];intro z;rw[List.take_of_length_le (by omega),List.take_of_length_le (by omega)]at z;exact e z
   .right;simpa using C
  show some (decide (a.take b.length=b.take a.length)&&(a.map D.int).length==(b.map D.int).length)=_;rw[this,decide_eq_false e]
theorem Mn(n:Nat): ∀{a b:List (List Int)},a.length=b.length->dI.go (n+2) (a.map Jt.Tu.tD) (b.map Jt.Tu.tD)=some (decide (a=b))
 |[],[],_=>by simp[dI.go]
 |[],_::_,h=>by cases h
 |_::_,[],h=>by cases h
 |x::a,y::b,h=>by rw[List.map_cons,List.map_cons];unfold dI.go;rw[Mv,Mn n (by simpa using h)];simp
theorem Dw(a b:List (List Int)):f9 true (.lst (a.map Jt.Tu.tD)) (.lst (b.map Jt.Tu.tD))=some (.bl (!decide (a=b))):=by
 unfold f9;have:dI 9 (.lst (a.map Jt.Tu.tD)) (.lst (b.map Jt.Tu.tD))=some (decide (a=b)):=by
  unfold dI;by_cases h:a.length=b.length;. rw[if_pos (by simpa using h)];exact Mn 6 h
  .rw[if_neg (by simpa using h),decide_eq_false λ z=>h (by rw[z])]
 rw[this];rfl
theorem CC:l=o9 l↔zX l:=⟨λ h=>by rw[h];exact iE l,λ h=>l7 h (iE l) λ z=>jQ.symm⟩
theorem IP(h:X.length<=5):sortSetU (tD X)=some ((o9 (X.map kp)).map Jt.Tu.tD):=by
 unfold sortSetU tD;dsimp only;have e:X.map pD=(X.map kp).map λ ns=> .tup (ns.map .int):=by rw[List.map_map];rfl
 rw[e,pk];dsimp only;rw[if_pos ⟨by simpa using h,by simp[kp]⟩]
open Classical in
theorem Ph{X:List Pr}(h6:n<=6)(hX: ∀e∈X,e.1<n/\e.2<n):bg Dc yV [.int (n:Int),tD X]=some (.bl (decide (lL X))):=by
 have: ∃d,bg Dc yV [.int (n:Int),tD X]=some d/\d= .bl (decide (lL X)):=by
  apply xR;show Ok yV [.pu (.int (n:Int)),.pu (tD X),.un,.un,.un] _;unfold yV;have rl:iB [.int (n:Int)]=some (lD (List.range n)):=by
   have:((n:Int)<100000/\ -(2^62)<=(n:Int)):=by omega
   simp[iB,this,nQ]
  have si:bH (tD X)=some (bC (X.map pD)):=rfl;generalize tD X=J at*;refine ck (λ o=>o=[.pu (.int (n:Int)),.pu J,.pu (.tup (lD (List.range n))),.un,.un]) (by simp[rl]) ?_;rintro _ rfl;rw[cn];refine gg (X.map pD) (λ k o=> ∃(l:List Nat) (a b:Jt.Slot),Ni n l (X.take k)/\lL (X.take k)/\o=[.pu (.int (n:Int)),.pu J,.pu (.tup (lD l)),a,b]) ?_ ⟨_,.un,.un,FH n,Ht,rfl⟩ ?_ ?_;. simp[si]
  .rintro k hk _ ⟨l,a,b,C,U,rfl⟩;have I:k<X.length:=by simpa using hk
   have aa:(X.map pD)[k]=pD X[k]:=by simp
   rw[aa];have hm:=hX _ (List.getElem_mem I);have ek:X.take (k+1)=X.take k++[X[k]]:=List.take_succ_eq_append_getElem I;have ab:lL X-> ¬fG (X.take k) X[k].1 X[k].2:= λ h=>h k I;rw[ek];generalize X[k]=e at*;have x1:=xC (H:=l) (k:=e.1) (by rw[C.len];omega);have x2:=xC (H:=l) (k:=e.2) (by rw[C.len];omega);have lk:=NY (l:=l) (by rw[C.len];exact h6) (a:=e.1) (b:=e.2) (by rw[C.len];omega) (by rw[C.len];omega);have ee:=C.eq e.1 e.2 (by omega) (by omega);have ae:=C.lnk (u:=e.1) (v:=e.2) (by omega) (by omega);have ne:=l9 false (l.getD e.1 0) (l.getD e.2 0);show Ok (fQ 2 _ (.tup [.int (e.1:Int),.int (e.2:Int)])) _ _;generalize lnk l e.1 e.2=l2 at*;generalize l.getD e.1 0=y1 at*;generalize l.getD e.2 0=y2 at*;simp only[yu,List.length_cons,List.length_nil,if_true,qE,jX,uQ,List.set_cons_succ,List.set_cons_zero];refine⟨by omega,by omega,?_⟩;by_cases q:fG (X.take k) e.1 e.2
   .rw[cn];refine fS (λ b o=>b=true/\o=[.pu (.int (n:Int)),.pu J,.pu (.tup (lD l)),.pu (.int (e.1:Int)),.pu (.int (e.2:Int))]) ?_ ?_ (λ _ h=>by cases h.1);. rw[decide_eq_true (ee.mpr q)]at ne;simp[x1,x2,ne]
    .rintro _ ⟨_,rfl⟩;simp only[bL,bU];refine⟨_,rfl,?_⟩;rw[decide_eq_false λ z=>ab z q]
   .have q': ¬y1=y2:= λ z=>q (ee.mp z);refine ck (λ o=>o=[.pu (.int (n:Int)),.pu J,.pu (.tup (lD l)),.pu (.int (e.1:Int)),.pu (.int (e.2:Int))]) ?_ ?_
    .refine fS (λ b o=>b=false/\o=[.pu (.int (n:Int)),.pu J,.pu (.tup (lD l)),.pu (.int (e.1:Int)),.pu (.int (e.2:Int))]) ?_ (λ _ h=>by cases h.1) ?_;. simp only[decide_eq_false q']at ne;simp[x1,x2,ne]
     .simp
    rintro _ rfl;simp only[mG,jv,d3,hU,bU,List.getElem?_cons_succ,List.getElem?_cons_zero,Option.some.injEq,Jt.Slot.pu.injEq,exists_eq_left',bh,if_true,lk,gY,List.length_cons,List.length_nil,List.set_cons_succ,List.set_cons_zero];exact⟨by omega,l2,_,_,ae,tR.mpr ⟨U,q⟩,rfl⟩
  .rintro _ ⟨l,a,b,C,U,rfl⟩;have:X.take (X.map pD).length=X:=by simp
   rw[this]at U;simp only[bL,bU];exact⟨_,rfl,by rw[decide_eq_true U]⟩
 obtain⟨d,h,rfl⟩:=this;exact h
variable {hs:List (List Int)} {M:Nat}
noncomputable def rF(t:D):Prop:=Short t/\ ∀xs,t= .tup xs-> ∀x∈xs,Short x
structure Nd (n:Nat) (X:List Pr):Prop where
 len:X.length + 1=n
 ok:∀ e ∈ X,e.1 < e.2∧e.2 < n
 srt:zX (X.map kp)
 fst:lL X
theorem AK(h:tD X=tD Y):X=Y:=by
 injection h with h;have gen: ∀{X Y:List Pr},X.map pD=Y.map pD->X=Y:=by intro X;induction X with
  |nil=>intro Y h;cases Y with
   |nil=>rfl
   |cons _ _=>cases h
  |cons x r C=>intro Y h;cases Y with
   |nil=>cases h
   |cons y q=>
    injection h with o I;have e:x=y:=by injection o with o;injection o with a b;injection a with a;injection b with b _;injection b with b;ext <;> omega
    rw[e,C I]
 exact gen h
theorem vp (h1:1 ≤ n) (hl:X.length + 1=n) (hX:∀ e ∈ X,e.1 < e.2∧e.2 < n):lg X (List.range n)=true ↔ lL X:= by
 have r:∀ e ∈ X,e.1 < n∧e.2 < n:=fun e he=>by have:=hX e he;omega
 have e:both (List.range n) X=X:=List.filter_eq_self.mpr fun e he=>by simp [r e he]
 rw [Gm List.nodup_range,e]
 refine (uU List.nodup_range (fun z=>?_) (fun e he=>?_) ?_).symm
 .have:=congrArg List.length z
  rw [List.length_range,List.length_nil] at this
  omega
 .exact ⟨List.mem_range.mpr (r e he).1,List.mem_range.mpr (r e he).2⟩
 .rw [hl,List.length_range]
theorem pX{xs:List D}{n:Nat}{N:List Str}{body:Jt.M Fl}{a b:Jt.Slot}{C:DS}(I:C[0]?=some (.pu lay)/\C[1]?=some (.pu (.tup xs)))(lo:Nat)(o:C.length=lo)(aa:2<=lo)(hx:xs.length<=60)(hp: ∀x∈xs,bg N body [lay,x]=some (.bl (dJ n x))):
  Ok (bB lo 1 (do let x<- aV 1;lift (bH x)) (bF (bT lo) (pure true) (mC (bh 2 (bg N body)) (aR (aV 0) (aR (aV lo) (pure [])))))) C λ ys J=>jn [.lst ys]=some (.bl (xs.all (dJ n)))/\J=C:=by
 refine lY xs (λ d=>some (.bl (dJ n d))) o ?_ (by omega) (λ d hd=>?_) ⟨?_,rfl⟩;. simp[I.2,bH]
 .have g0:(C++List.replicate 1 Jt.Slot.un)[0]?=some (.pu lay):=by rw[List.getElem?_append_left (by omega)];exact I.1
  simp only[uc,jX,bU,if_true,jv,d3,hU];refine⟨by simp[o],lay,?_,d,?_,?_⟩;. rw[List.getElem?_set_ne (by omega)];exact g0
  .rw[List.getElem?_set_self (by simp[o])]
  .simp only[bh,List.length_cons,List.length_nil,if_true,hp d hd,gY];refine⟨trivial,?_⟩;rw[List.take_set_of_le (by omega),List.take_append_of_le_length (by omega),List.take_of_length_le (by omega)]
 .rw[List.filterMap_eq_map'];show(boolsOf (xs.map λ a=> .bl (dJ n a))).map _=_;rw[h_];simp
open Classical in
theorem qp(h1:1<=hs.length)(h6:hs.length<=6){t:D}(ht:rF t): ∃b,bg eS dk [bW M hs,t]=some (.bl b)/\bg vW j7 [bW M hs,t]=some (.bl b)/\(b=true-> ∃X,Nd hs.length X/\t=tD X)/\(∀X,Nd hs.length X->t=tD X->b=true):=by
 have e1:=fw (M:Int) hs;have e2:=jK hs;have ip:= λ{x:D}(h:Short x)=>N_ (hs:=hs) (M:Int) h;have lp:= λ{x:D}(h:Short x)=>oW (hs:=hs) (M:Int) h;have es:f_ (.int (hs.length:Int)) (.int 1)=some (.int ((hs.length-1:Nat):Int)):=by
  simp only[f_,df,if_true];refine congrArg (λ z:Int=>some (D.int z)) ?_;omega
 generalize bW (M:Int) hs=lay at*;by_cases af: ∃xs,t= .tup xs
 .obtain⟨xs,rfl⟩:=af;have ae:xs.length<=60:=ht.1 xs rfl;have ln:cj [.tup xs]=some (.int (xs.length:Int)):=by simp[cj]
  have J:cx .tup (.tup xs)=true:=by simp[cx,qY]
  have nq:cQ true (.int (xs.length:Int)) (.int ((hs.length-1:Nat):Int))=some (.bl (!decide (xs.length+1=hs.length))):=by
   have:cQ true (.int (xs.length:Int)) (.int ((hs.length-1:Nat):Int))=some (.bl (!decide ((xs.length:Int)=((hs.length-1:Nat):Int)))):=by simp[cQ,flat,ke]
   rw[this];refine congrArg (λ b:Bool=>some (D.bl (!b))) ?_;rw[decide_eq_decide];omega
  by_cases hl:xs.length+1=hs.length
  .rw[decide_eq_true hl]at nq;have ai:= λ(o:DS) (ag:o[0]?=some (.pu lay)/\o[1]?=some (.pu (.tup xs))) (lo:Nat) (h0:o.length=lo) (h2:2<=lo)=>pX (a:= .un) (b:= .un) (n:=hs.length) (N:=pW) (body:=nD) ag lo h0 h2 ae λ x hx=>ip (ht.2 xs rfl x hx);have aj:= λ(o:DS) (ag:o[0]?=some (.pu lay)/\o[1]?=some (.pu (.tup xs))) (lo:Nat) (h0:o.length=lo) (h2:2<=lo)=>pX (a:= .un) (b:= .un) (n:=hs.length) (N:=tG) (body:=wD) ag lo h0 h2 ae λ x hx=>lp (ht.2 xs rfl x hx);have a1:=ai [.pu lay,.pu (.tup xs),.pu (.int (hs.length:Int))] ⟨rfl,rfl⟩ 3 rfl (by omega);have a2:=aj [.pu lay,.pu (.tup xs)] ⟨rfl,rfl⟩ 2 rfl (by omega)
   have U: ∀{g:Jt.M Fl}{Q:Fl->DS->Prop},Ok g [.pu lay,.pu (.tup xs),.pu (.int (hs.length:Int))] Q->Ok (br (eB 2 (mC cj (aR (m2 dq (aV 0) (pure (.int 1))) (pure []))))
     (br (eY (vj (fC (do let x<- (kj .tup (aV 1));lift (eL x))) (m2 (cQ true) (mC cj (aR (aV 1) (pure []))) (m2 f_ (aV 2) (pure (.int 1))) >>= dD)) (do let d<- (pure (.bl false));pure (Fl.rt d)) (pure .nx)) g)) [.pu lay,.pu (.tup xs),.un] Q:= λ{g Q} hg=>by rfl';refine eP ?_;rfl';exact hg
   have aa: ∀{g:Jt.M Fl}{Q:Fl->DS->Prop},Ok g [.pu lay,.pu (.tup xs)] Q->Ok (br (eY (vj (fC (do let x<- (kj .tup (aV 1));lift (eL x))) (m2 (cQ true) (mC cj (aR (aV 1) (pure []))) (m2 f_ (mC cj (aR (m2 dq (aV 0) (pure (.int 1))) (pure []))) (pure (.int 1))) >>= dD)) (do let d<- (pure (.bl false));pure (Fl.rt d)) (pure .nx)) g) [.pu lay,.pu (.tup xs)] Q:= λ{g Q} hg=>by refine eP ?_;rfl';exact hg
   cases hp:xs.all (dJ hs.length)with
   |false=>
    rw[hp]at a1 a2
    refine⟨false,?_,?_,λ z=>(by cases z),λ X TX e=>?_⟩
    .apply bJ;show Ok dk [.pu lay,.pu (.tup xs),.un] _;unfold dk;refine U (eP ?_);rfl';refine a1.mono λ ys o ⟨h3,h4⟩=>?_;subst h4;rfl'
    .apply bJ;show Ok j7 [.pu lay,.pu (.tup xs)] _;unfold j7;refine aa (eP ?_);rfl';refine a2.mono λ ys o ⟨h3,h4⟩=>?_;subst h4;rfl'
    .exfalso
     have e:D.tup xs=D.tup (X.map pD):=e
     injection e with e
     rw[e,List.all_eq_false]at hp
     obtain⟨x,hx,hn⟩:=hp
     obtain⟨p,ak,rfl⟩:=List.mem_map.mp hx
     exact hn (Hx (TX.ok p ak))
   |true=>
    rw[hp]at a1 a2
    obtain⟨X,rfl,hX⟩:=tX hp
    have ao:X.length<=5:=by rw[List.length_map]at hl;omega
    rw[List.length_map]at hl
    have rs:=M6 (X:=X) (by omega)
    have nr:=Ph (n:=hs.length) (X:=X) h6 λ e he=>by have:=hX e he;omega
    have ss:=IP ao
    have nl:=Dw (X.map kp) (o9 (X.map kp))
    have dl:dList [tD X]=some ((X.map kp).map Jt.Tu.tD):=by
     show some (X.map pD)=_
     rw[List.map_map]
     rfl
    have hg:=v3 (X:=X) (sm:=List.range hs.length) (by rw[List.length_range];exact h6)
    have hr:lg X (List.range hs.length)=decide (lL X):=by
     rw[Bool.eq_iff_iff,decide_eq_true_eq]
     exact vp h1 hl hX
    rw[hr]at hg
    have rl:iB [.int (hs.length:Int)]=some (lD (List.range hs.length)):=by
     have:((hs.length:Int)<100000/\ -(2^62)<=(hs.length:Int)):=by omega
     simp[iB,this,nQ]
    have a1:Ok (bB 3 1 (do let x<- aV 1;lift (bH x)) (bF (bT 3) (pure true) (mC (bh 2 (bg pW nD)) (aR (aV 0) (aR (aV 3) (pure [])))))) [.pu lay,.pu (tD X),.pu (.int (hs.length:Int))] (λ ys ah=>jn [.lst ys]=some (.bl true)/\ah=[.pu lay,.pu (tD X),.pu (.int (hs.length:Int))]):=a1
    have a2:Ok (bB 2 1 (do let x<- aV 1;lift (bH x)) (bF (bT 2) (pure true) (mC (bh 2 (bg tG wD)) (aR (aV 0) (aR (aV 2) (pure [])))))) [.pu lay,.pu (tD X)] (λ ys ah=>jn [.lst ys]=some (.bl true)/\ah=[.pu lay,.pu (tD X)]):=a2
    have C: ∀{g:Jt.M Fl}{Q:Fl->DS->Prop},Ok g [.pu lay,.pu (tD X),.pu (.int (hs.length:Int))] Q->_:= λ{g Q} h=>U (g:=g) (Q:=Q) h
    have I: ∀{g:Jt.M Fl}{Q:Fl->DS->Prop},Ok g [.pu lay,.pu (tD X)] Q->_:= λ{g Q} h=>aa (g:=g) (Q:=Q) h
    by_cases ab:zX (X.map kp)
    .rw[su.mpr ab]at rs
     rw[decide_eq_true (CC.mpr ab)]at nl
     refine⟨decide (lL X),?_,?_,λ z=>⟨X,⟨hl,hX,ab,of_decide_eq_true z⟩,rfl⟩,λ Y TY e=>?_⟩
     .apply bJ;show Ok dk [.pu lay,.pu (tD X),.un] _;unfold dk;refine C (eP ?_);rfl';refine a1.mono λ ys o ⟨h3,h4⟩=>?_;subst h4;generalize tD X=tt at*;rfl'
     .apply bJ;show Ok j7 [.pu lay,.pu (tD X)] _;unfold j7;refine I (eP ?_);rfl';refine a2.mono λ ys o ⟨h3,h4⟩=>?_;subst h4;generalize tD X=tt at*;rfl'
     .have:=AK (show tD X=tD Y from e)
      subst this
      exact decide_eq_true TY.fst
    .have ra:JY (X.map kp)=false:=Bool.eq_false_iff.mpr λ z=>ab (su.mp z)
     rw[ra]at rs
     rw[decide_eq_false λ z=>ab (CC.mp z)]at nl
     refine⟨false,?_,?_,λ z=>(by cases z),λ Y TY e=>?_⟩
     .apply bJ;show Ok dk [.pu lay,.pu (tD X),.un] _;unfold dk;refine C (eP ?_);rfl';refine a1.mono λ ys o ⟨h3,h4⟩=>?_;subst h4;generalize tD X=tt at*;rfl'
     .apply bJ;show Ok j7 [.pu lay,.pu (tD X)] _;unfold j7;refine I (eP ?_);rfl';refine a2.mono λ ys o ⟨h3,h4⟩=>?_;subst h4;generalize tD X=tt at*;rfl'
     .exfalso
      have:=AK (show tD X=tD Y from e)
      subst this
      exact ab TY.srt
  .rw[decide_eq_false hl]at nq
   refine⟨false,?_,?_,λ z=>(by cases z),λ X TX e=>?_⟩
   .apply bJ;show Ok dk [.pu lay,.pu (.tup xs),.un] _;unfold dk;rfl';refine eP ?_;rfl'
   .apply bJ;show Ok j7 [.pu lay,.pu (.tup xs)] _;unfold j7;refine eP ?_;rfl'
   .exfalso
    have e:D.tup xs=D.tup (X.map pD):=e
    injection e with e
    rw[e,List.length_map]at hl
    exact hl TX.len
 .have J:(!cx .tup t)=true:=by cases t <;> first|rfl|exact absurd ⟨_,rfl⟩ af
  refine⟨false,?_,?_,λ z=>(by cases z),λ X TX e=>absurd ⟨_,e⟩ af⟩
  .apply bJ;show Ok dk [.pu lay,.pu t,.un] _;unfold dk;rfl';refine eP ?_;rfl'
  .apply bJ;show Ok j7 [.pu lay,.pu t] _;unfold j7;refine eP ?_;rfl'
end K23
namespace K23
open PySem L2 Jt
variable {hs:List (List Int)}
theorem Fg (xs:List D) (h:xs[xs.length - 1]? = some d):jL xs (-1)=some d:= by
 have hp:xs.length - 1 < xs.length:=(List.getElem?_eq_some_iff.mp h).1
 unfold jL zE
 rw [if_neg (by omega),if_pos (by omega)]
 have:(-1 + (xs.length:Int)).toNat=xs.length - 1:=by omega
 simp [this]
 exact h
theorem uJ{u:Nat}(h:w.getLast?=some u):dq (.tup (lD w)) (.int (-1))=some (.int u):=by refine Fg _ ?_;rw[dU];unfold lD;rw[List.getElem?_map,<- List.getLast?_eq_getElem?,h];rfl
theorem MC(J:X.length<=60)(v:Nat):jU mY uV [tD X,.int (v:Int)]=some (lD (xn X v)):=by
 apply Gd;show Ok uV [.pu (tD X),.pu (.int (v:Int))] _;unfold uV;have C:bH (tD X)=some (bC (X.map pD)):=rfl;simp only[bL,bU];refine cw X pD (λ e=>if v=e.1\/v=e.2 then some (.int ((e.1+e.2-v:Nat):Int))else none) rfl ?_ (by omega) (λ e _=>?_) ?_;. simp[C]
 .have o:kq false (.int (v:Int)) (.tup [.int (e.1:Int),.int (e.2:Int)])=some (.bl (decide (v∈[e.1,e.2]))):=ky false v [e.1,e.2];show Ok (bF _ _ _ (.tup [.int (e.1:Int),.int (e.2:Int)])) _ _;by_cases q:v=e.1\/v=e.2
  .have hm:decide (v∈[e.1,e.2])=true:=by simpa using q
   rw[hm]at o;have hs:f_ (.int ((e.1:Int)+(e.2:Int))) (.int (v:Int))=some (.int ((e.1+e.2-v:Nat):Int)):=by refine congrArg (λ z:Int=>some (D.int z)) ?_;omega
   have I:dY (.int (e.1:Int)) (.int e.2)=some (.int (e.1+e.2)):=by simp[dY,df]
   rw[if_pos q];simp[o,I,hs]
  .have hm:decide (v∈[e.1,e.2])=false:=by simpa using q
   rw[hm]at o;rw[if_neg q];simp[o]
 .refine congrArg Fl.rf ?_;unfold xn lD;rw[List.map_filterMap];refine congrArg (λ z=>List.filterMap z X) (funext λ e=>?_);by_cases q:v=e.1\/v=e.2 <;> simp[q]
theorem nc: ∀{n:Nat}{w:List Nat},w.Nodup->(∀x∈w,x<n)->w.length<=n
 |n,w,nd,h=>by have:=nd.length_le_of_subset (l₂:=List.range n) (λ x hx=>List.mem_range.mpr (h x hx));rwa [List.length_range]at this
theorem qy(hn:n<=6){X:List Pr}(hX:X.length<=60)(hr: ∀e∈X,e.1<n/\e.2<n)(g:Nat): ∀(f:Nat)(w:List Nat),w.Nodup->(∀x∈w,x<n)->w≠[]->n<w.length+f->
  ∃d,jw f [tD X,.tup (lD w),.int (g:Int)]=some d/\((d= .non/\ ∀p,¬Ext X w g p)\/ ∃p,d= .tup (lD (w++p))/\Ext X w g p)
 |0,w,nd,hw,_,hf=>by have:=nc nd hw;omega
 |f+1,w,nd,hw,af,hf=>by
  obtain⟨u,hu⟩: ∃u,w.getLast?=some u:=⟨_,List.getLast?_eq_getLast af⟩;have ao:=nc nd hw;have il:=uJ hu;have bi:=MC hX u;have ng:lG (.int 1)=some (.int (-1)):=rfl;have eq1:f9 false (.int (u:Int)) (.int (g:Int))=some (.bl (decide (u=g))):=by
   have:f9 false (.int (u:Int)) (.int (g:Int))=some (.bl (decide ((u:Int)=(g:Int)))):=by simp[f9,jB,cQ,flat,ke]
   rw[this];refine congrArg (λ b:Bool=>some (D.bl b)) ?_;rw[decide_eq_decide];omega
  have ni:= λ h:Nat=>ky true h w;have ct:= λ h:Nat=>(MZ (lD w) [.int (h:Int)] (by rw[dU];omega) (by simp));have rc:= λ(h:Nat) (hm:h∉w) (hh:h<n)=>qy hn hX hr g f (w++[h]) (by rw[List.nodup_append];exact⟨nd,by simp,λ a ha b hb e=>by rw[List.mem_singleton.mp hb]at e;exact hm (e▸ha)⟩) (λ x hx=>by rcases List.mem_append.mp hx with z|z;exact hw x z;rw[List.mem_singleton.mp z];exact hh) (by simp) (by simp;omega);show∃d,bg BP (qD (jw f)) _=some d/\_;by_cases q:u=g
  .refine⟨.tup (lD w),?_,.inr ⟨[],by simp,u,hu,trivial,by simpa using nd,by simp[q]⟩⟩;apply bJ;show Ok (qD (jw f)) [.pu (tD X),.pu (.tup (lD w)),.pu (.int (g:Int)),.un,.un] _;unfold qD;rw[decide_eq_true q]at eq1;generalize D.tup (lD w)=wd at*;generalize tD X=I at*;refine eP ?_;rfl'
  rw[decide_eq_false q]at eq1;have ag: ∀h:Nat,lD w++[.int (h:Int)]=lD (w++[h]):= λ h=>by unfold lD;rw[List.map_append];rfl
  have key:Ok (qD (jw f)) [.pu (tD X),.pu (.tup (lD w)),.pu (.int (g:Int)),.un,.un] λ fl _=> ∃d,fl= .rt d/\((d= .non/\ ∀p,¬Ext X w g p)\/ ∃p,d= .tup (lD (w++p))/\Ext X w g p):=by
   unfold qD;refine ck (λ o=>o=[.pu (tD X),.pu (.tup (lD w)),.pu (.int (g:Int)),.un,.un]) ?_ ?_
   .refine fS (λ b o=>b=false/\o=[.pu (tD X),.pu (.tup (lD w)),.pu (.int (g:Int)),.un,.un]) ?_ (λ _ h=>by cases h.1) ?_
    .rfl'
    .rintro _ ⟨_,rfl⟩;simp
   rintro _ rfl;rw[cn];refine gg (lD (xn X u)) (λ k o=> ∃a3 U:Jt.Slot,o=[.pu (tD X),.pu (.tup (lD w)),.pu (.int (g:Int)),a3,U]/\ ∀h∈(xn X u).take k,h∉w-> ∀p,¬Ext X (w++[h]) g p) ?_ ⟨_,_,rfl,by simp⟩ ?_ ?_;. rfl'
   .rintro k hk _ ⟨a3,U,rfl,hI⟩;have aa:k<(xn X u).length:=by rw[dU]at hk;exact hk
    have ah:(lD (xn X u))[k]= .int (((xn X u)[k]:Nat):Int):=by simp[lD]
    rw[ah,List.take_succ_eq_append_getElem aa];have ab:(xn X u)[k]∈xn X u:=List.getElem_mem aa;have J:=lQ.mp ab;have ai:(xn X u)[k]<n:=by
     rcases J with z|z
     .exact(hr _ z).2
     .exact(hr _ z).1
    generalize(xn X u)[k]=h at*;refine oSet rfl ?_;simp only[List.set_cons_succ,List.set_cons_zero];have C:=ni h;have ae:=ct h;rw[ag h]at ae;have I':(∀p,h∉w-> ¬Ext X (w++[h]) g p)-> ∀h'∈(xn X u).take k++[h],h'∉w-> ∀p,¬Ext X (w++[h']) g p:= λ z h' m q p=>by
     rcases List.mem_append.mp m with y|y
     .exact hI h' y q p
     .rw[List.mem_singleton.mp y]at q|-;exact z p q
    by_cases hm:h∈w
    .rw[show(if true=true then !decide (h∈w)else decide (h∈w))=false by simp[hm]]at C;refine fS (λ b o=>b=false/\o=[.pu (tD X),.pu (.tup (lD w)),.pu (.int (g:Int)),.pu (.int (h:Int)),U]) ?_ (λ _ h=>by cases h.1) ?_
     .rfl'
     .rintro _ ⟨_,rfl⟩;exact bU.mpr ⟨_,_,rfl,I' λ p z=>absurd hm z⟩
    .rw[show(if true=true then !decide (h∈w)else decide (h∈w))=true by simp[hm]]at C;obtain⟨d,ed,hd⟩:=rc h hm ai
     refine fS (λ b o=>b=true/\o=[.pu (tD X),.pu (.tup (lD w)),.pu (.int (g:Int)),.pu (.int (h:Int)),U]) ?_ ?_ (λ _ h=>by cases h.1)
     .generalize D.tup (lD w)=wd at*
      generalize tD X=I at*
      simp[C]
     .rintro _ ⟨_,rfl⟩
      refine ck (λ o=>o=[.pu (tD X),.pu (.tup (lD w)),.pu (.int (g:Int)),.pu (.int (h:Int)),.pu d]) ?_ ?_
      .generalize D.tup (lD (w++[h]))=aj at*
       generalize D.tup (lD w)=wd at*
       generalize tD X=I at*
       simp[ae,bh,ed]
      rintro _ rfl
      rcases hd with⟨rfl,no⟩|⟨p,rfl,E⟩
      .refine fS (λ b o=>b=false/\o=[.pu (tD X),.pu (.tup (lD w)),.pu (.int (g:Int)),.pu (.int (h:Int)),.pu .non]) ?_ (λ _ h=>by cases h.1) ?_
       .generalize D.tup (lD w)=wd at*
        generalize tD X=I at*
        simp[Dk,yg]
       .rintro _ ⟨_,rfl⟩
        exact bU.mpr ⟨_,_,rfl,I' λ p _=>no p⟩
      .have nn:Dk true (.tup (lD (w++[h]++p))) .non=some (.bl true):=rfl
       have e2:D.tup (lD (w++[h]++p))= .tup (lD (w++h::p)):=by simp
       rw[e2]at nn|-
       refine fS (λ b o=>b=true/\o=[.pu (tD X),.pu (.tup (lD w)),.pu (.int (g:Int)),.pu (.int (h:Int)),.pu (.tup (lD (w++h::p)))]) ?_ ?_ (λ _ h=>by cases h.1)
       .generalize D.tup (lD (w++h::p))=aj at*
        generalize D.tup (lD w)=wd at*
        generalize tD X=I at*
        simp[nn]
       .rintro _ ⟨_,rfl⟩
        simp only[bL,hU,bU]
        exact⟨_,rfl,_,rfl,.inr ⟨h::p,rfl,(ext_cons hu).mpr ⟨J,E⟩⟩⟩
   .rintro _ ⟨a3,U,rfl,hI⟩
    simp only[bL,bU]
    refine⟨.non,rfl,.inl ⟨rfl,λ p E=>?_⟩⟩
    rw[dU,List.take_length]at hI
    rcases Eo hu E with⟨_,z⟩|⟨h,p2,_,ad,hm,E2⟩
    .exact q z
    .exact hI h (lQ.mpr ad) hm p2 E2
  obtain⟨fl,ak,e,d,rfl,r⟩:=key
  exact⟨d,bJ ⟨_,ak,e,rfl⟩,r⟩
end K23
namespace K23
open PySem L2 Jt
noncomputable def rD(r:List Nat):D:= .tup (lD r)
theorem Cb(h:r≠[]):r.getLast?=some (lst r):=by unfold lst;rw[List.getLast?_eq_getLast h];rfl
theorem FF(u g:Nat):f9 false (.int u) (.int g)=some (.bl (decide (u=g))):=by
 have:f9 false (.int u) (.int g)=some (.bl (decide ((u:Int)=g))):=by simp[f9,jB,cQ,flat,ke]
 rw[this];refine congrArg (λ b:Bool=>some (D.bl b)) ?_;rw[decide_eq_decide];omega
theorem zt(hn:n<=6){X:List Pr}(hl:X.length+1=n)(hr: ∀e∈X,e.1<n/\e.2<n){a g:Nat}(ha:a<n)(hE: ∃r,Way X a r/\(∀x∈r,x<n)/\lst r=g): ∃r,bg tE qz [tD X,.int (a:Int),.int (g:Int)]=some (rD r)/\Way X a r/\lst r=g:=by
 have key:Ok qz [.pu (tD X),.pu (.int (a:Int)),.pu (.int (g:Int)),.un,.un,.un,.un,.un] λ fl _=> ∃r,fl= .rt (rD r)/\Way X a r/\lst r=g:=by
  unfold qz;have ln:cj [tD X]=some (.int (X.length:Int)):=by simp[tD,cj]
  have ng:lG (.int 1)=some (.int (-1)):=rfl;have ad:dY (.int (X.length:Int)) (.int 1)=some (.int (n:Int)):=by simp only[dY,df];refine congrArg (λ z:Int=>some (D.int z)) ?_;omega
  have rn:=fE (M:=n) (by omega)
  have si:bH (tD X)=some (bC (X.map pD)):=rfl;have p5: ∀t,t<=6->5^t<=15625:= λ t ht=>Nat.pow_le_pow_right (by omega) ht;generalize hT:tD X=J at*;refine ck (λ o=>o=[.pu J,.pu (.int (a:Int)),.pu (.int (g:Int)),.pu (.lst ((rws X a 0).map rD)),.un,.un,.un,.un]) (by simp[rws,rD,lD]) ?_;rintro _ rfl;rw[cn];refine gg (cb 0 n) (λ t o=> ∃s4 s5 s6 C:Jt.Slot,o=[.pu J,.pu (.int (a:Int)),.pu (.int (g:Int)),.pu (.lst ((rws X a t).map rD)),s4,s5,s6,C]/\ ∀t'<t,∀r∈rws X a t',lst r≠g) ?_ ⟨_,_,_,_,rfl,λ t' h=>by omega⟩ ?_ ?_;. rfl'
  .rintro t ht _ ⟨s4,s5,s6,C,rfl,hI⟩;have ht6:t<n:=by simpa[cb]using ht
   rw[eI,jX];refine⟨by simp,?_⟩;simp only[List.set_cons_succ,List.set_cons_zero];have hR: ∀r∈rws X a t,Way X a r/\r.length=t+1:= λ r h=>l5.mp h;have hRl:=qR (X:=X) (by omega) a t;have aj:=qR (X:=X) (by omega) a (t+1);have q5:=p5 (t+1) (by omega);have eN:rws X a (t+1)=vk X (rws X a t):=rfl;rw[eN]at aj|-;have fin: ∀r∈rws X a t,lst r=g-> ∃r,Fl.rt (rD r)= .rt (rD r)/\Way X a r/\lst r=g:= λ r h z=>⟨r,rfl,(hR r h).1,z⟩;have hI2:(∀r∈rws X a t,lst r≠g)-> ∀t'<t+1,∀r∈rws X a t',lst r≠g:= λ z t' h r hr=>by
    by_cases e:t'=t;. subst e;exact z r hr
    .exact hI t' (by omega) r hr
   generalize rws X a t=R at*;have il: ∀r∈R,dq (rD r) (.int (-1))=some (.int (lst r:Int)):= λ r h=>uJ (Cb λ z=>by have:=(hR r h).2;rw[z]at this;simp at this);have sR:bH (.lst (R.map rD))=some (bC (R.map rD)):=rfl;rw[cn];refine gg (R.map rD) (λ i o=> ∃s5:Jt.Slot,o=[.pu J,.pu (.int (a:Int)),.pu (.int (g:Int)),.pu (.lst (R.map rD)),.pu (.int (t:Int)),s5,s6,C]/\ ∀r∈R.take i,lst r≠g) ?_ ⟨_,rfl,by simp⟩ ?_ ?_;. rfl'
   .rintro i hi _ ⟨s5,rfl,hJ⟩;have U:i<R.length:=by simpa using hi
    have ae:(R.map rD)[i]=rD R[i]:=by simp
    rw[ae,List.take_succ_eq_append_getElem U];refine oSet rfl ?_;simp only[List.set_cons_succ,List.set_cons_zero];have hm:R[i]∈R:=List.getElem_mem U;generalize R[i]=r at*;have I:=il r hm;have aa:=FF (lst r) g;generalize D.lst (R.map rD)=Rd at*;by_cases q:lst r=g
    .rw[decide_eq_true q]at aa;refine fS (λ b o=>b=true/\o=[.pu J,.pu (.int (a:Int)),.pu (.int (g:Int)),.pu Rd,.pu (.int (t:Int)),.pu (rD r),s6,C]) ?_ ?_ (λ _ h=>by cases h.1);. rfl'
     .rintro _ ⟨_,rfl⟩;rfl';exact⟨r,rfl,(hR r hm).1,q⟩
    .rw[decide_eq_false q]at aa;refine fS (λ b o=>b=false/\o=[.pu J,.pu (.int (a:Int)),.pu (.int (g:Int)),.pu Rd,.pu (.int (t:Int)),.pu (rD r),s6,C]) ?_ (λ _ h=>by cases h.1) ?_;. rfl'
     .rintro _ ⟨_,rfl⟩;refine bU.mpr ⟨_,rfl,λ r' m=>?_⟩;rcases List.mem_append.mp m with z|z
      .exact hJ r' z
      .rw[List.mem_singleton.mp z];exact q
   rintro _ ⟨s5,rfl,hJ⟩;rw[List.length_map,List.take_length]at hJ;refine ck (λ o=>o=[.pu J,.pu (.int (a:Int)),.pu (.int (g:Int)),.pu (.lst (R.map rD)),.pu (.int (t:Int)),s5,.ow false [],C]) (by simp) ?_;rintro _ rfl;refine ck (λ o=> ∃s5 C:Jt.Slot,o=[.pu J,.pu (.int (a:Int)),.pu (.int (g:Int)),.pu (.lst (R.map rD)),.pu (.int (t:Int)),s5,.ow false ((vk X R).map rD),C]) ?_ ?_
   .refine gg (R.map rD) (λ i o=> ∃s5 C:Jt.Slot,o=[.pu J,.pu (.int (a:Int)),.pu (.int (g:Int)),.pu (.lst (R.map rD)),.pu (.int (t:Int)),s5,.ow false ((vk X (R.take i)).map rD),C]) ?_ ⟨_,_,rfl⟩ ?_ ?_
    .rfl'
    .rintro i hi _ ⟨s5,C,rfl⟩;have U:i<R.length:=by simpa using hi
     have ae:(R.map rD)[i]=rD R[i]:=by simp
     rw[ae,List.take_succ_eq_append_getElem U];refine oSet rfl ?_;simp only[List.set_cons_succ,List.set_cons_zero];have hm:R[i]∈R:=List.getElem_mem U;have eA:vk X (R.take i++[R[i]])=vk X (R.take i)++X.flatMap (gr R[i]):=by unfold vk;rw[List.flatMap_append,List.flatMap_singleton]
     rw[eA];have bA:(vk X (R.take i)).length<=15625* 5:=by have:=qM (X:=X) (by omega) (R.take i);rw [List.length_take] at this;have h5:=p5 t (by omega);omega
     generalize R[i]=r at *;generalize vk X (R.take i)=A at *;have I:=il r hm;have rl:=(hR r hm).2;have nir:=λ h:Nat=>ky true h r;have ctr:=λ h:Nat=>(MZ (lD r) [.int (h:Int)] (by rw [dU];omega) (by simp));generalize D.lst (R.map rD)=Rd at *;refine gg (X.map pD) (λ j o=>∃ C:Jt.Slot,o=[.pu J,.pu (.int (a:Int)),.pu (.int (g:Int)),.pu Rd,.pu (.int (t:Int)),.pu (rD r),.ow false ((A ++ (X.take j).flatMap (gr r)).map rD),C]) ?_ ⟨C,by rw [List.take_zero,List.flatMap_nil,List.append_nil]⟩ ?_ ?_;. rfl'
     .rintro j hj _ ⟨C,rfl⟩;have hj2:j < X.length:=by simpa using hj
      have itj:(X.map pD)[j]=.tup [.int (X[j].1:Int),.int (X[j].2:Int)]:=by simp [pD]
      rw [itj,List.take_succ_eq_append_getElem hj2,jX];refine ⟨by simp,?_⟩;simp only [List.set_cons_succ,List.set_cons_zero];have bG:=AX r (X.take j);have bX:(X.take j).length <= 5:=by rw [List.length_take];omega
      rw [List.flatMap_append,List.flatMap_singleton];generalize X[j]=e at *;generalize (X.take j).flatMap (gr r)=B at *;have h1:kq false (.int (lst r:Int)) (.tup [.int (e.1:Int),.int (e.2:Int)])=some (.bl (decide (lst r ∈ [e.1,e.2]))):=ky false (lst r) [e.1,e.2]
      have g0:dq (.tup [.int (e.1:Int),.int (e.2:Int)]) (.int 0)=some (.int (e.1:Int)):=rfl
      have g1:dq (.tup [.int (e.1:Int),.int (e.2:Int)]) (.int 1)=some (.int (e.2:Int)):=rfl
      have ha:dY (.int (e.1:Int)) (.int (e.2:Int))=some (.int ((e.1:Int) + (e.2:Int))):=by simp [dY,df]
      by_cases q:lst r=e.1 \/ lst r=e.2
      .have af:decide (lst r ∈ [e.1,e.2])=true:=by simpa using q
       rw [af] at h1
       have hs:f_ (.int ((e.1:Int) + (e.2:Int))) (.int (lst r:Int))=some (.int ((e.1 + e.2 - lst r:Nat):Int)):= by
        simp only [f_,df,if_true]
        refine congrArg (λ z:Int=>some (D.int z)) ?_
        omega
       have ag:=nir (e.1 + e.2 - lst r)
       have ab:=ctr (e.1 + e.2 - lst r)
       have eg:gr r e=if e.1 + e.2 - lst r ∈ r then [] else [r ++ [e.1 + e.2 - lst r]]:= by
        unfold gr
        by_cases z:e.1 + e.2 - lst r ∈ r <;> simp [q,z]
       have ah:lD r ++ [.int ((e.1 + e.2 - lst r:Nat):Int)]=lD (r ++ [e.1 + e.2 - lst r]):=by unfold lD;rw [List.map_append];rfl
       rw [ah] at ab
       rw [eg]
       generalize e.1 + e.2 - lst r=h at *
       generalize hpd:D.tup [.int (e.1:Int),.int (e.2:Int)]=pd at *
       have ag:kq true (.int (h:Int)) (rD r)=some (.bl (!decide (h ∈ r))):=ag
       have ab:mR (rD r) (.tup [.int (h:Int)])=some (rD (r ++ [h])):=ab
       refine fS (λ b o=>b = !decide (h ∈ r) /\ o=[.pu J,.pu (.int (a:Int)),.pu (.int (g:Int)),.pu Rd,.pu (.int (t:Int)),.pu (rD r),.ow false ((A ++ B).map rD),.pu pd]) ?_ ?_ ?_
       .rfl'
       .rintro _ ⟨z,rfl⟩
        have z:h ∉ r:=by simpa using z
        rw [if_neg z]
        have hlen:((A ++ B).map rD).length <= 100000:= by
         rw [List.length_map,List.length_append];omega
        have ai:((A ++ B).map rD) ++ [rD (r ++ [h])]=(A ++ (B ++ [r ++ [h]])).map rD:=by simp
        rfl'
        exact ⟨_,by rw [<- ai];rfl⟩
       .rintro _ ⟨z,rfl⟩
        have z:h ∈ r:=by simpa using z
        rw [if_pos z]
        exact bU.mpr ⟨.pu pd,by rw [List.append_nil]⟩
      .have af:decide (lst r ∈ [e.1,e.2])=false:=by simpa using q
       rw [af] at h1
       have eg:gr r e=[]:=by unfold gr;simp [q]
       rw [eg]
       generalize hpd:D.tup [.int (e.1:Int),.int (e.2:Int)]=pd at *
       refine fS (λ b o=>b=false /\ o=[.pu J,.pu (.int (a:Int)),.pu (.int (g:Int)),.pu Rd,.pu (.int (t:Int)),.pu (rD r),.ow false ((A ++ B).map rD),.pu pd]) ?_ (λ _ h=>by cases h.1) ?_
       .rfl'
       .rintro _ ⟨_,rfl⟩
        exact bU.mpr ⟨.pu pd,by rw [List.append_nil]⟩
     .rintro _ ⟨C,rfl⟩
      rw [List.length_map,List.take_length]
      exact ⟨_,_,rfl⟩
    .rintro _ ⟨s5,C,rfl⟩
     rw [List.length_map,List.take_length]
     exact ⟨rfl,_,_,rfl⟩
   rintro _ ⟨s5,C,rfl⟩
   rfl'
   exact ⟨_,_,_,_,rfl,hI2 hJ⟩
  .rintro _ ⟨s4,s5,s6,C,rfl,hI⟩
   exfalso
   obtain ⟨r,hw,hrn,hg⟩:=hE
   have hln:=nc hw.2.1 hrn
   have hne:r ≠ []:=λ z=>by have:=hw.2.2;rw [z] at this;cases this
   have hp:=List.length_pos_iff.mpr hne
   refine hI (r.length - 1) ?_ r (l5.mpr ⟨hw,by omega⟩) hg
   simp [cb];omega
 obtain ⟨fl,δ',e,r,rfl,h⟩:=key
 exact ⟨r,bJ ⟨_,δ',e,rfl⟩,h⟩
variable {hs:List (List Int)} {M:Nat}
theorem xQ (h:Ok body (entry N ds) fun fl _=>fl=.nx):bg N body ds=some .non:= by
 obtain ⟨z,δ',e,rfl⟩:=h
 unfold bg
 rw [e]
theorem qS(m:Int)(h:a<hs.length):bg wG v9 [bW m hs,.int a]=some .non:=by
 apply xQ;show Ok v9 [.pu (bW m hs),.pu (.int a)] _;have e:=t6 (.int a) hs.length;rw[yt h]at e;have o:=fw m hs;have C:=jK hs;generalize bW m hs=lay at*;refine fS (λ b I=>b=false/\I=[.pu lay,.pu (.int a)]) ?_ (λ _ h=>by cases h.1) ?_;. simp[bh,e,o,C,eL]
 .simp
noncomputable def nk(hs:List (List Int))(a b:Nat):List Int:=(G hs a).filter λ c=>decide (c∈G hs b)
theorem CQ(m:Int)(J: ∀h∈hs,h.length<=7){a b:Nat}(C:a<hs.length)(I:b<hs.length):bg oG vb [bW m hs,.int a,.int b]=some (hD (nk hs a b)):=by
 apply bJ;show Ok vb [.pu (bW m hs),.pu (.int a),.pu (.int b),.un] _;have U:=qS m C;have n2:=qS m I;have e1:=fw m hs;have ga:=qG C;have gb:=qG I;have g7:(G hs a).length<=7:=by
  have:G hs a=hs[a]:=by simp[G,C]
  rw[this];exact J _ (List.getElem_mem C)
 generalize bW m hs=lay at*;refine ck (λ o=>o=[.pu lay,.pu (.int a),.pu (.int b),.un]) (by simp[bh,U]) ?_;rintro _ rfl;refine ck (λ o=>o=[.pu lay,.pu (.int a),.pu (.int b),.un]) (by simp[bh,n2]) ?_;rintro _ rfl;refine ck (λ o=>o=[.pu lay,.pu (.int a),.pu (.int b),.pu (.tup (hs.map hD))]) (by simp[e1]) ?_;rintro _ rfl;simp[bL,jv,d3,bU];refine cw (G hs a) .int (λ c=>if decide (c∈G hs b)=true then some (.int c)else none) rfl ?_ (by omega) (λ c _=>?_) ?_;. simp[ga,Bw]
 .by_cases q:c∈G hs b <;> simp[gb,pF,q]
 .rw[cY];simp[fU,nk,hD]
theorem HK(o: ∀h∈hs,h.length<=7)(e:Pr):wh hs e<=7:=by
 unfold wh;have C:=List.length_filter_le (λ x=>decide (x∈hs.getD e.2 [])) (hs.getD e.1 []);have I:(hs.getD e.1 []).length<=7:=by rw[List.getD_eq_getElem?_getD];cases q:hs[e.1]? with
  |none=>simp
  |some h=>exact o h (List.mem_of_getElem? q)
 omega
theorem sum_ints(ns:List Int)(o:ns.length<=1000)(C: ∀i∈ns,0<=i/\i<=1000000):o_ [.lst (ns.map .int)]=some (.int ns.sum):=by
 have:lU ns=true:=by unfold lU;simp;exact⟨o,C⟩
 show(dN (ns.map .int)).bind _=_;rw[kI];simp[this]
theorem Oc(C:hs.length<=6)(hM:M<=7):bg qj uM [bW M hs]=some (.int (nV hs M)):=by
 apply bJ;show Ok uM [.pu (bW M hs)] _;unfold uM;have I:=va M hs;have J:= λ c (o:c<M)=>wk C c o;have U:d5 M=true:=by simp[d5];omega
 simp[bL,jv,d3,bU];refine cw (List.range M) (λ c=> .int c) (λ c=>some (.int (max (((vc hs c).length:Int) -1) 0))) rfl ?_ (by simp;omega) (λ c o=>?_) ?_;. simp[I,dz,U,cb]
 .have h:=J c (List.mem_range.mp o);have hm:jq [.int (((vc hs c).length:Int) -1),.int 0]=some (.int (max (((vc hs c).length:Int) -1) 0)):=by refine congrArg (λ z:Int=>some (D.int z)) ?_;omega
  have hl:cj [.tup (lD (vc hs c))]=some (.int ((vc hs c).length:Int)):=by simp[cj,lD]
  simp[bh,h,hl,f_,df,hm]
 .rw[List.filterMap_eq_map'];have s:=sum_ints ((List.range M).map λ c=>max (((vc hs c).length:Int) -1) 0) (by simp;omega) λ i hi=>by
   obtain⟨c,_,rfl⟩:=List.mem_map.mp hi;have:(vc hs c).length<=6:=by unfold vc;have:=List.length_filter_le (λ i=>co hs c i) (List.range hs.length);rw[List.length_range]at this;omega
   omega
  rw[List.map_map]at s;rw[show((λ c:Nat=>D.int (max (((vc hs c).length:Int) -1) 0))=(D.int∘ λ c=>max (((vc hs c).length:Int) -1) 0))from rfl,s];simp[nV]
theorem Ij(h:bg eS dk [bW M hs,tD X]=some (.bl true)):bg Bp Ah [bW M hs,tD X]=some .non:=by
 apply xQ;show Ok Ah [.pu (bW M hs),.pu (tD X)] _;generalize bW M hs=lay at*;generalize tD X=o at*;refine fS (λ b C=>b=false/\C=[.pu lay,.pu o]) ?_ (λ _ h=>by cases h.1) ?_;. simp[bh,h,eL]
 .simp
theorem Od(o: ∀h∈hs,h.length<=7)(hX:X.length<=60)(C: ∀e∈X,e.1<hs.length/\e.2<hs.length)(h:bg eS dk [bW M hs,tD X]=some (.bl true)):bg uH DX [bW M hs,tD X]=some (.int (X.map (wh hs)).sum):=by
 apply bJ;show Ok DX [.pu (bW M hs),.pu (tD X)] _;have I:=Ij h;have co:= λ{a b:Nat}(J:a<hs.length) (U:b<hs.length)=>CQ M o J U;have si:bH (tD X)=some (bC (X.map pD)):=rfl;have wl:= λ e:Pr=>HK o e;generalize bW M hs=lay at*;generalize tD X=td at*;refine ck (λ δ=>δ=[.pu lay,.pu td]) (by simp[bh,I]) ?_;rintro _ rfl;simp[bL,jv,d3,bU];refine cw X pD (λ e=>some (.int (wh hs e))) rfl ?_ (by omega) (λ e he=>?_) ?_;. simp[si]
 .have h1:=co (C e he).1 (C e he).2;have hl:cj [hD (nk hs e.1 e.2)]=some (.int (wh hs e)):=by simp[cj,hD,nk,wh,G]
  show Ok (bF _ _ _ (.tup [.int e.1,.int e.2])) _ _;simp[bh,h1,hl]
 .rw[List.filterMap_eq_map'];have s:=sum_ints (X.map (wh hs)) (by simp;omega) λ i hi=>by obtain⟨e,_,rfl⟩:=List.mem_map.mp hi;have:=wl e;exact⟨by unfold wh;omega,by omega⟩
  rw[List.map_map]at s;have s:o_ [.lst (X.map λ e=>D.int (wh hs e))]=some (.int (X.map (wh hs)).sum):=s;rw[s];simp
theorem Nq(h1:1<=hs.length)(h6:hs.length<=6)(TX:Nd hs.length X)(h:bg eS dk [bW M hs,tD X]=some (.bl true)){a g:Nat}(I:a<hs.length)(hg:g<hs.length): ∃r,bg x8 xK [bW M hs,tD X,.int (a:Int),.int (g:Int)]=some (rD r)/\bg tE qz [tD X,.int (a:Int),.int (g:Int)]=some (rD r):=by
 have hl:=TX.len;have C: ∀e∈X,e.1<hs.length/\e.2<hs.length:= λ e he=>by have:=TX.ok e he;omega
 have con:Mq X (List.range hs.length):=(uU List.nodup_range (λ z=>by have:=congrArg List.length z;rw[List.length_range,List.length_nil]at this;omega) (λ e he=>⟨List.mem_range.mpr (C e he).1,List.mem_range.mpr (C e he).2⟩) (by rw[List.length_range];exact hl)).mp TX.fst;have rc:fG X a g:=con a (List.mem_range.mpr I) g (List.mem_range.mpr hg);obtain⟨p0,o,J,U⟩:=Ly rc;have ab: ∀{w:List Nat}{u:Nat},u<hs.length->vm X (u::w)-> ∀x∈u::w,x<hs.length:=by intro w;induction w with
  |nil=>intro u hu _ x hx;rw[List.mem_singleton.mp hx];exact hu
  |cons v w ih=>
   intro u hu c x hx;have hv:v<hs.length:=by rcases c.1 with z|z;exact(C _ z).2;exact(C _ z).1
   rcases List.mem_cons.mp hx with z|z
   .rw[z];exact hu
   .exact ih hv c.2 x z
 have E0:Ext X [a] g p0:=⟨a,rfl,o,J,U⟩;obtain⟨d,ed,hd⟩:=qy h6 (X:=X) (by omega) C g 7 [a] (by simp) (by simpa using I) (by simp) (by omega);obtain⟨r,er,⟨cr,nr,aa⟩,lr⟩:=zt h6 hl C I (g:=g) ⟨a::p0,⟨o,J,rfl⟩,ab I o,by unfold lst;rw[U];rfl⟩;obtain⟨p,rfl,E⟩: ∃p,d= .tup (lD ([a]++p))/\Ext X [a] g p:=by
  rcases hd with⟨_,no⟩|z
  .exact absurd E0 (no p0)
  .exact z
 obtain⟨q,rfl⟩: ∃q,r=a::q:=by cases r with
  |nil=>cases aa
  |cons x q=>injection aa with z;exact⟨q,by rw[z]⟩
 have E2:Ext X [a] g q:=⟨a,rfl,cr,nr,by rw[Cb (by simp),lr]⟩;have pq:=Gg TX.fst E E2;subst pq;refine⟨a::p,?_,er⟩;apply bJ;show Ok xK [.pu (bW M hs),.pu (tD X),.pu (.int (a:Int)),.pu (.int g)] _;have nt:=Ij h;have n1:=qS M I;have n2:=qS M hg;have ed:jw 7 [tD X,.tup [.int a],.int g]=some (rD (a::p)):=ed;generalize bW M hs=lay at*;generalize tD X=td at*;refine ck (λ δ=>δ=[.pu lay,.pu td,.pu (.int a),.pu (.int g)]) (by simp[bh,nt]) ?_;rintro _ rfl;refine ck (λ δ=>δ=[.pu lay,.pu td,.pu (.int a),.pu (.int g)]) (by simp[bh,n1]) ?_;rintro _ rfl;refine ck (λ δ=>δ=[.pu lay,.pu td,.pu (.int a),.pu (.int g)]) (by simp[bh,n2]) ?_;simp[bh,ed]
end K23
namespace K23
open PySem L2 Jt
section
variable {α β:Type} {δ:DS}
@[simp] theorem O3 {f:Jt.M α} {Q:α ⊕ Addr->DS->Prop}:Ok (pQ f) δ Q ↔ Ok f δ fun a δ'=>Q (.inl a) δ':=by simp [pQ]
theorem dr {x:Jt.M (α ⊕ Addr)} {f:α->Jt.M (β ⊕ Addr)} {Q:β ⊕ Addr->DS->Prop}:Ok (bX x f) δ Q ↔ Ok x δ fun r δ'=>match r with | .inl a=>Ok (f a) δ' Q | .inr C=>Q (.inr C) δ':= by
 unfold bX
 rw [bL]
 refine Iff.intro (fun ⟨r,δ1,e,q⟩=>⟨r,δ1,e,?_⟩) fun ⟨r,δ1,e,q⟩=>⟨r,δ1,e,?_⟩
 .cases r with
  | inl a=>exact q
  | inr C=>exact bU.mp q
 .cases r with
  | inl a=>exact q
  | inr C=>exact bU.mpr q
@[simp] theorem LU {C:Addr} {fs:Jt.M (List D)} {Q:Fl ⊕ Addr->DS->Prop}:Ok (nX C fs) δ Q ↔ Ok fs δ fun ds δ'=>Ok (lift (few ds.length)) δ' fun _ δ2=>Q (.inr C) δ2:=by simp [nX]
theorem ji {N:List Str} {body:Jt.M (Fl ⊕ Addr)} {ds:List D} {r:D ⊕ Addr} (h:Ok body (entry N ds) fun z _=>match r with | .inl d=>z=.inl (.rt d) | .inr C=>z=.inr C):eU N body ds=some r:= by
 obtain ⟨z,δ',e,q⟩:=h
 unfold eU
 rw [e]
 cases r with
 | inl d=>have q:z=.inl (.rt d):=q;subst q;rfl
 | inr C=>have q:z=.inr C:=q;subst q;rfl
theorem wZ {N:List Str} {body:Jt.M (Fl ⊕ Addr)} {ds:List D} (h:Ok body (entry N ds) fun z _=>z=.inl .nx):eU N body ds=some (.inl .non):= by
 obtain ⟨z,δ',e,rfl⟩:=h
 unfold eU
 rw [e]
theorem tj {ie iy:Nat} {kn:Addr->Option Str} {fx:Jt.M (Fl ⊕ Addr)} {Q:Fl->DS->Prop} {C:Addr} {w:Str} (hk:kn C=some w) (h:Ok fx δ fun r δ'=>r=.inr C∧δ'[ie]? = some .un∧(iy < δ'.length∧ie ≠ iy)∧Q .nx (δ'.set iy (.pu (.str w)))):Ok (BA ie iy kn fx) δ Q:= by
 obtain ⟨r,δ',e,rfl,h1,h2,q⟩:=h
 exact ⟨_,_,by unfold BA;rw [e];simp only [hk,h1];rw [if_pos h2],q⟩
end
variable {hs:List (List Int)}
theorem yA (C:Addr) (m:Int) {x:D} (h:cm hs.length x=true):eU pB (kl C) [bW m hs,x]=some (.inl .non):= by
 apply wZ
 show Ok (kl C) [.pu (bW m hs),.pu x] _
 unfold kl fA
 have e:=t6 x (hs.length:Int)
 rw [h] at e
 have e1:=fw m hs
 have e2:=jK hs
 generalize bW m hs=lay at *
 rw [dr]
 refine fS (fun b δ=>b=false∧δ=[.pu lay,.pu x]) ?_ (fun _ h=>by cases h.1) ?_
 .simp [bh,e,e1,e2,eL]
 .rintro _ ⟨_,rfl⟩
  simp
theorem pv (C:Addr) (m:Int) {x:D} (h:cm hs.length x=false):eU pB (kl C) [bW m hs,x]=some (.inr C):= by
 apply ji
 show Ok (kl C) [.pu (bW m hs),.pu x] _
 unfold kl fA
 have e:=t6 x (hs.length:Int)
 rw [h] at e
 have e1:=fw m hs
 have e2:=jK hs
 generalize bW m hs=lay at *
 rw [dr]
 refine fS (fun b δ=>b=true∧δ=[.pu lay,.pu x]) ?_ ?_ (fun _ h=>by cases h.1)
 .simp [bh,e,e1,e2,eL]
 .rintro _ ⟨_,rfl⟩
  rw [dr]
  simp [few]
theorem pJ (C:Addr) {lay t:D} (h:bg eS dk [lay,t]=some (.bl true)):eU qB (kb C) [lay,t]=some (.inl .non):= by
 apply wZ
 show Ok (kb C) [.pu lay,.pu t] _
 unfold kb fA
 rw [dr]
 refine fS (fun b δ=>b=false∧δ=[.pu lay,.pu t]) ?_ (fun _ h=>by cases h.1) ?_
 .simp [bh,h,eL]
 .rintro _ ⟨_,rfl⟩
  simp
theorem qv (C:Addr) {lay t:D} (h:bg eS dk [lay,t]=some (.bl false)):eU qB (kb C) [lay,t]=some (.inr C):= by
 apply ji
 show Ok (kb C) [.pu lay,.pu t] _
 unfold kb fA
 rw [dr]
 refine fS (fun b δ=>b=true∧δ=[.pu lay,.pu t]) ?_ ?_ (fun _ h=>by cases h.1)
 .simp [bh,h,eL]
 .rintro _ ⟨_,rfl⟩
  rw [dr]
  simp [few]
theorem ua (C:Addr) {lay t:D} (h:bg eS dk [lay,t]=some (.bl false)):eU lj (qA C) [lay,t]=some (.inr C):= by
 apply ji
 show Ok (qA C) [.pu lay,.pu t] _
 unfold qA fA dX
 have n1:=qv C h
 rw [dr]
 refine (show Ok _ _ fun fl δ=>fl=.inr C∧δ=[.pu lay,.pu t] by simp [dr,n1]).mono fun fl δ hq=>?_
 obtain ⟨rfl,rfl⟩:=hq
 rfl
theorem CB (C1 C2:Addr) {lay t x y:D} (h:bg eS dk [lay,t]=some (.bl false)):eU me (ij C1 C2) [lay,t,x,y]=some (.inr C2):= by
 apply ji
 show Ok (ij C1 C2) [.pu lay,.pu t,.pu x,.pu y] _
 unfold ij fA dX
 have n1:=qv C2 h
 rw [dr]
 refine (show Ok _ _ fun fl δ=>fl=.inr C2∧δ=[.pu lay,.pu t,.pu x,.pu y] by simp [dr,n1]).mono fun fl δ hq=>?_
 obtain ⟨rfl,rfl⟩:=hq
 rfl
theorem zW (C1 C2:Addr) (m:Int) {t x y:D} (h:bg eS dk [bW m hs,t]=some (.bl true)) (hx:cm hs.length x=false):eU me (ij C1 C2) [bW m hs,t,x,y]=some (.inr C1):= by
 apply ji
 show Ok (ij C1 C2) [.pu (bW m hs),.pu t,.pu x,.pu y] _
 unfold ij fA dX
 have n1:=pJ C2 h
 have n2:=pv C1 m hx
 generalize bW m hs=lay at *
 rw [dr]
 refine (show Ok _ _ fun fl δ=>fl=.inl .nx∧δ=[.pu lay,.pu t,.pu x,.pu y] by simp [dr,n1]).mono fun fl δ hq=>?_
 obtain ⟨rfl,rfl⟩:=hq
 dsimp only
 rw [dr]
 refine (show Ok _ _ fun fl δ=>fl=.inr C1∧δ=[.pu lay,.pu t,.pu x,.pu y] by simp [dr,n2]).mono fun fl δ hq=>?_
 obtain ⟨rfl,rfl⟩:=hq
 rfl
theorem zr (C1 C2:Addr) (m:Int) {t x y:D} (h:bg eS dk [bW m hs,t]=some (.bl true)) (hx:cm hs.length x=true) (hy:cm hs.length y=false):eU me (ij C1 C2) [bW m hs,t,x,y]=some (.inr C1):= by
 apply ji
 show Ok (ij C1 C2) [.pu (bW m hs),.pu t,.pu x,.pu y] _
 unfold ij fA dX
 have n1:=pJ C2 h
 have n2:=yA C1 m hx
 have n3:=pv C1 m hy
 generalize bW m hs=lay at *
 rw [dr]
 refine (show Ok _ _ fun fl δ=>fl=.inl .nx∧δ=[.pu lay,.pu t,.pu x,.pu y] by simp [dr,n1]).mono fun fl δ hq=>?_
 obtain ⟨rfl,rfl⟩:=hq
 dsimp only
 rw [dr]
 refine (show Ok _ _ fun fl δ=>fl=.inl .nx∧δ=[.pu lay,.pu t,.pu x,.pu y] by simp [dr,n2]).mono fun fl δ hq=>?_
 obtain ⟨rfl,rfl⟩:=hq
 dsimp only
 rw [dr]
 refine (show Ok _ _ fun fl δ=>fl=.inr C1∧δ=[.pu lay,.pu t,.pu x,.pu y] by simp [dr,n3]).mono fun fl δ hq=>?_
 obtain ⟨rfl,rfl⟩:=hq
 rfl
section
variable {C1 C2:Addr} {kn:Addr->Option Str} {lay t x y:D}
theorem Pn:cQ false (.int 0) (.int 0)=some (.bl true):=by simp [cQ,flat,ke]
theorem Pd:cQ false (.int 1) (.int 0)=some (.bl false):=by simp [cQ,flat,ke]
theorem MD {w:Str} (hk:kn C2=some w) (e:eU lj (qA C2) [lay,t]=some (.inr C2)):bg gh (eR C1 C2 kn) [.int 0,lay,t,x,y]=some (.str w):= by
 apply bJ
 show Ok (eR C1 C2 kn) [.pu (.int 0),.pu lay,.pu t,.pu x,.pu y,.un,.un] _
 unfold eR fA dX
 refine ck (fun δ=>δ=[.pu (.int 0),.pu lay,.pu t,.pu x,.pu y,.pu (.str "told"),.un]) (by simp) ?_
 rintro _ rfl
 refine ck (fun δ=>δ=[.pu (.int 0),.pu lay,.pu t,.pu x,.pu y,.pu (.str w),.un]) ?_ ?_
 .refine tj hk ?_
  rw [dr]
  refine fS (fun b δ=>b=true∧δ=[.pu (.int 0),.pu lay,.pu t,.pu x,.pu y,.pu (.str "told"),.un]) (by simp [Pn]) ?_ (fun _ h=>by cases h.1)
  rintro _ ⟨_,rfl⟩
  simp [dr,e]
 rintro _ rfl
 simp
theorem CZ {C:Addr} {w:Str} (hk:kn C=some w) (e:eU me (ij C1 C2) [lay,t,x,y]=some (.inr C)):bg gh (eR C1 C2 kn) [.int 1,lay,t,x,y]=some (.str w):= by
 apply bJ
 show Ok (eR C1 C2 kn) [.pu (.int 1),.pu lay,.pu t,.pu x,.pu y,.un,.un] _
 unfold eR fA dX
 refine ck (fun δ=>δ=[.pu (.int 1),.pu lay,.pu t,.pu x,.pu y,.pu (.str "told"),.un]) (by simp) ?_
 rintro _ rfl
 refine ck (fun δ=>δ=[.pu (.int 1),.pu lay,.pu t,.pu x,.pu y,.pu (.str w),.un]) ?_ ?_
 .refine tj hk ?_
  rw [dr]
  refine fS (fun b δ=>b=false∧δ=[.pu (.int 1),.pu lay,.pu t,.pu x,.pu y,.pu (.str "told"),.un]) (by simp [Pd]) (fun _ h=>by cases h.1) ?_
  rintro _ ⟨_,rfl⟩
  simp [dr,e]
 rintro _ rfl
 simp
end
end K23
namespace K23
open PySem L2 Jt
open Jt.Tu (cK nH zX eW h9 gF jb sortU)
theorem xq (h:∀ e ∈ P,e.1 ≠ v∧e.2 ≠ v) (r:fG P a b):b=v->a=v:= by
 induction r with
 | refl a=>exact id
 | step z _ ih=>
  intro e
  have:=ih e
  subst this
  rcases z with z | z
  .exact absurd rfl (h _ z).2
  .exact absurd rfl (h _ z).1
theorem vA{nm:List Nat}(nd:nm.Nodup)(U: ∀x∈nm,x<n){P:List Pr}
  (hp: ∀(i:Nat)(e:Pr),P[i]?=some e-> ∃o,o<i+1/\ ∃a b,nm[o]?=some a/\nm[i+1]?=some b/\e=(min a b,max a b)):lL P/\(∀e∈P,e.1<e.2/\e.2<n)/\(P.map kp).Nodup:=by
 have inj: ∀{i j x:Nat},nm[i]?=some x->nm[j]?=some x->i=j:= λ{i j x} h1 h2=>(List.getElem?_inj (List.getElem?_eq_some_iff.mp h1).1 nd).mp (h1.trans h2.symm);have ne: ∀{o i a b:Nat},o<i+1->nm[o]?=some a->nm[i+1]?=some b->a≠b:= λ{o i a b} h h1 h2 e=>by subst e;have:=inj h1 h2;omega
 have hF:lL P:= λ k hk r=>by
  obtain⟨o,ho,a,b,ea,I,ee⟩:=hp k P[k] (List.getElem?_eq_getElem hk);have C:=ne ho ea I;have off: ∀e∈P.take k,e.1≠b/\e.2≠b:= λ e he=>by
   obtain⟨i,J⟩:=List.mem_iff_getElem?.mp he;rw[List.getElem?_take]at J;split at J
   .obtain⟨o',ae,a',b',aa,ab,rfl⟩:=hp i e J;have n1:a'≠b:= λ z=>by subst z;have:=inj aa I;omega
    have n2:b'≠b:= λ z=>by subst z;have:=inj ab I;omega
    constructor <;> omega
   .cases J
  rw[ee]at r;by_cases q:a<=b;. rw[Nat.min_eq_left q,Nat.max_eq_right q]at r;exact C (xq off r rfl)
  .rw[Nat.min_eq_right (by omega),Nat.max_eq_left (by omega)]at r;exact C (xq off r.symm rfl)
 refine⟨hF,λ e he=>?_,?_⟩;. obtain⟨i,J⟩:=List.mem_iff_getElem?.mp he;obtain⟨o,ho,a,b,ea,I,rfl⟩:=hp i e J;have C:=ne ho ea I;have h1:=U a (List.mem_of_getElem? ea);have h2:=U b (List.mem_of_getElem? I);omega
 .have nP:=zq hF;rw[List.nodup_iff_pairwise_ne]at nP|-;rw[List.pairwise_map];exact nP.imp λ h e=>h (KG e)
theorem GZ(h:P.length<64)(nd:(P.map kp).Nodup): ∃X:List Pr,sortU (P.map pD)=some (X.map pD)/\X.Perm P/\zX (X.map kp):=by
 refine⟨Jt.Tu.pickT (P.map kp) (0,0) P,?_,eW _ _ _ (by simp),?_⟩
 .unfold sortU;have e:P.map pD=(P.map kp).map λ ns=> .tup (ns.map .int):=by rw[List.map_map];rfl
  have J:iq (P.map pD)=some (P.map kp):=by rw[e,pk]
  rw[J];dsimp only;rw[if_pos ⟨by simpa using h,by simp[kp]⟩];refine congrArg some ?_;rw[gF];exact jb (by simp) _ _
 .have U:(Jt.Tu.pickT (P.map kp) (0,0) P).map kp=Jt.Tu.pickT (P.map kp) [] (P.map kp):=by rw[gF];exact jb (by simp) _ _
  have I:=h9 (P.map kp);rw[<- U]at I;have C:((Jt.Tu.pickT (P.map kp) (0,0) P).map kp).Nodup:=((eW (P.map kp) (0,0) P (by simp)).map kp).nodup_iff.mpr nd;exact(I.and C).imp λ{a b} z=>by cases q3:cK a b with
   |true=>rfl
   |false=>exact absurd (nH q3 z.1) z.2
theorem rP{nm:List Nat}(nd:nm.Nodup)(C: ∀x∈nm,x<n)(hn:n<=6){P:List Pr}(U:P.length+1=n)
  (hp: ∀(i:Nat)(e:Pr),P[i]?=some e-> ∃o,o<i+1/\ ∃a b,nm[o]?=some a/\nm[i+1]?=some b/\e=(min a b,max a b)): ∃X:List Pr,sortU (P.map pD)=some (X.map pD)/\Nd n X:=by obtain⟨hF,ho,I⟩:=vA nd C hp;obtain⟨X,eX,J,sX⟩:=GZ (P:=P) (by omega) I;exact⟨X,eX,by rw[J.length_eq,U],λ e he=>ho e (J.mem_iff.mp he),sX,uo J.symm hF⟩
end K23
namespace K23
open PySem L2 Jt
variable {M:Nat}
theorem uB(h1:1<=n)(h6:n<=6){J U z3 a5 a6 a7 a8 a9 aa ab ac ad ae:Jt.Slot}{n0:Int}{g:Jt.M Fl}{Q:Fl->DS->Prop}
  (hg: ∀(m:Int)(os:List Nat)(s5:Jt.Slot),os.length=n->os.Nodup->(∀o∈os,o<n)->Ok g [J,U,.ow false [.int m],z3,.pu (.int (n:Int)),s5,.pu (.lst (lD os)),a7,a8,a9,aa,ab,ac,ad,ae] Q):
  Ok (br (wx 5 (mC iB (aR (aV 4) (pure []))))
   (br (eB 6 (do let xs<- (bB 15 1 (mC dz (aR (aV 4) (pure []))) (bF (bT 15) (pure true) (uY 5 (aR (do let _<- bO 2;dg 2 2 (cz de cZ) (aR (jx 5) (pure []))) (pure [])))));pure (D.lst xs))) g)) [J,U,.ow false [.int n0],z3,.pu (.int (n:Int)),a5,a6,a7,a8,a9,aa,ab,ac,ad,ae] Q:=by
 have rn:=fE (M:=n) (by omega);have dM:iB [.int n]=some (lD (List.range n)):=by simp[iB,show(n:Int)<100000 by omega,nQ]
 rfl';refine dC (cb 0 n) (λ k acc δ=> ∃(m:Int) (ls os:List Nat),acc=lD os/\δ=[J,U,.ow false [.int m],z3,.pu (.int (n:Int)),.ow false (lD ls),a6,a7,a8,a9,aa,ab,ac,ad,ae]/\os.length=k/\ls.length+k=n/\os.Nodup/\ls.Nodup/\(∀o∈os,o<n/\o∉ls)/\ ∀o∈ls,o<n) rfl (by rfl') (by simp[cb];omega) ⟨n0,List.range n,[],rfl,rfl,rfl,by simp,by simp,List.nodup_range,by simp,by simp⟩ ?_ ?_
 .rintro k hk acc _ ha hl ⟨m,ls,os,rfl,rfl,h1,h2,h3,h4,h5,h6⟩;have ag:k<n:=by simpa[cb]using hk
  have et:=m_law_take m (lD ls).length (by rw[dU];omega) (by rw[dU];omega);have g1:=Int.emod_nonneg m (show(ls.length:Int)≠0 by omega);have g2:=Int.emod_lt_of_pos m (show(0:Int)<ls.length by omega);obtain⟨j,hj⟩: ∃j:Nat,m%((lD ls).length:Int)=(j:Int):=⟨(m%(ls.length:Int)).toNat,by rw[dU];omega⟩;rw[hj]at et;rw[dU]at hj;have C:j<ls.length:=by omega
  have ex:(lD ls)[j]?=some (.int (ls[j]:Int)):=by simp[lD,C]
  rw[eI];rfl';have af:=gH h4 C;have I:=List.getElem_mem C;refine⟨_,ls.eraseIdx j,os++[ls[j]],by simp[lD],by rw[show lD (ls.eraseIdx j)=(lD ls).eraseIdx j from(jh _ ls j).symm];rfl,by simp[h1],?_,?_,uh h4 j,?_,λ o ho=>h6 o (List.mem_of_mem_eraseIdx ho)⟩;. rw[List.length_eraseIdx,if_pos C];omega
  .refine List.nodup_append.mpr ⟨h3,by simp,λ a ha b hb e=>?_⟩;rw[List.mem_singleton.mp hb]at e;exact(h5 a ha).2 (e▸I)
  .intro o ho;rcases List.mem_append.mp ho with z|z
   .exact⟨(h5 o z).1,λ q=>(h5 o z).2 (List.mem_of_mem_eraseIdx q)⟩
   .rw[List.mem_singleton.mp z];exact⟨h6 _ I,af⟩
 .rintro _ _ - - ⟨m,ls,os,rfl,rfl,h1,h2,h3,h4,h5,h6⟩;rfl';exact hg m os _ (by rw[h1];simp[cb]) h3 λ o ho=>(h5 o ho).1
end K23
namespace K23
open PySem L2 Jt
theorem Qy {os:List Nat} {k a:Nat} (h:os[k]? = some a):dq (.lst (lD os)) (.int (k:Int))=some (.int (a:Int)):= by
 have hk:=(List.getElem?_eq_some_iff.mp h).1
 show jL (lD os) (k:Int)=_
 rw [atI_nat _ _ (by rw [dU];exact hk)]
 have:=(List.getElem?_eq_some_iff.mp h).2
 simp [lD,this]
theorem sU {n:Nat} (h1:1 ≤ n) (h6:n ≤ 6) {os:List Nat} (hl:os.length=n) {z0 z1 z3 a5 a7 a8 a9 aa ab ac ad ae:Jt.Slot} {n0:Int} {g:Jt.M Fl} {Q:Fl->DS->Prop}
  (hg:∀ (m:Int) (qs:List Pr),qs.length + 1=n->(∀ (i:Nat) (e:Pr),qs[i]? = some e->∃ o,o < i + 1∧os[o]? = some e.1∧os[i + 1]? = some e.2)->Ok g [z0,z1,.ow false [.int m],z3,.pu (.int (n:Int)),a5,.pu (.lst (lD os)),.pu (.lst (qs.map pD)),a8,a9,aa,ab,ac,ad,ae] Q) :
  Ok (br (eB 7 (do let xs <- (bB 15 1 (mC zO (aR (pure (.int 1)) (aR (aV 4) (pure [])))) (bF (bT 15) (pure true) (dm (aR (m2 dq (aV 6) (do let _ <- bO 2;dg 2 2 (cz de cZ) (aR (aV 15) (pure [])))) (aR (m2 dq (aV 6) (aV 15)) (pure []))))));pure (D.lst xs))) g) [z0,z1,.ow false [.int n0],z3,.pu (.int (n:Int)),a5,.pu (.lst (lD os)),a7,a8,a9,aa,ab,ac,ad,ae] Q:= by
 have sN:d5 (n:Int)=true:=by simp [d5];omega
 have s1:d5 1=true:=rfl
 have edn:((n:Int) - 1).toNat=n - 1:=by omega
 have r2:zO [.int 1,.int (n:Int)]=some (bC (cb 1 (n - 1))):=by simp [zO,s1,sN,edn]
 have hx:∀ {k:Nat},k < n->∃ a,os[k]? = some a:=fun {k} h=>⟨os[k],List.getElem?_eq_getElem (by omega)⟩
 have ix:=fun {k a:Nat} (h:os[k]? = some a)=>Qy h
 generalize D.lst (lD os)=od at *
 rfl'
 refine dC (cb 1 (n - 1)) (fun k acc δ=>∃ (m:Int) (qs:List Pr),acc=qs.map pD∧δ=[z0,z1,.ow false [.int m],z3,.pu (.int (n:Int)),a5,.pu od,a7,a8,a9,aa,ab,ac,ad,ae]∧qs.length=k∧∀ (i:Nat) (e:Pr),qs[i]? = some e->∃ o,o < i + 1∧os[o]? = some e.1∧os[i + 1]? = some e.2) rfl ?_ (by simp [cb];omega) ⟨n0,[],rfl,rfl,rfl,fun i e h=>by simp at h⟩ ?_ ?_
 .rfl'
 .rintro k hk acc _ ha hlq ⟨m,qs,rfl,rfl,hq1,hq2⟩
  have hk':k < n - 1:=by simpa [cb] using hk
  have itm:(cb 1 (n - 1))[k]=.int ((k + 1:Nat):Int):= by
   simp [cb]
   omega
  rw [itm]
  have et:=m_law_take m ((k + 1:Nat):Int) (by omega) (by omega)
  obtain ⟨o,ho,hol⟩:∃ o:Nat,m % ((k + 1:Nat):Int)=(o:Int)∧o < k + 1:= by
   have a1:=Int.emod_nonneg m (show ((k + 1:Nat):Int) ≠ 0 by omega)
   have a2:=Int.emod_lt_of_pos m (show (0:Int) < ((k + 1:Nat):Int) by omega)
   exact ⟨(m % ((k + 1:Nat):Int)).toNat,by omega,by omega⟩
  rw [ho] at et
  obtain ⟨a,ea⟩:=hx (show o < n by omega)
  obtain ⟨b,eb⟩:=hx (show k + 1 < n by omega)
  have xa:=ix ea
  have xb:=ix eb
  generalize m / ((k + 1:Nat):Int)=m1 at *
  have fin:∃ (m:Int) (qs':List Pr),qs.map pD ++ [.tup [.int (a:Int),.int (b:Int)]]=qs'.map pD∧(m=m1)∧qs'.length=k + 1∧∀ (i:Nat) (e:Pr),qs'[i]? = some e->∃ o,o < i + 1∧os[o]? = some e.1∧os[i + 1]? = some e.2:= by
   refine ⟨m1,qs ++ [(a,b)],by rw [List.map_append];rfl,rfl,by simp [hq1],fun i e he=>?_⟩
   by_cases hi:i < qs.length
   .rw [List.getElem?_append_left hi] at he
    exact hq2 i e he
   .rw [List.getElem?_append_right (by omega)] at he
    cases hz:i - qs.length with
    | zero=>
     rw [hz] at he
     cases he
     have:i=k:=by omega
     subst this
     exact ⟨o,hol,ea,eb⟩
    | succ z=>rw [hz] at he;simp at he
  obtain ⟨_,qs',f1,rfl,f2,f3⟩:=fin
  generalize (((k + 1:Nat):Int))=kk at *
  rfl'
  exact ⟨_,qs',f1,rfl,f2,f3⟩
 .rintro xs _ hx hlq ⟨m,qs,rfl,rfl,hq1,hq2⟩
  have:(cb 1 (n - 1)).length=n - 1:=by simp [cb]
  rfl'
  exact hg m qs (by omega) hq2
end K23
namespace K23
open PySem L2 Jt
open Jt.Tu (sortU)
theorem Pf(e:Pr):pj [pD e]=some (.int ((min e.1 e.2:Nat):Int)):=by refine congrArg (λ z:Int=>some (D.int z)) ?_;simp only[kO];omega
theorem Pj(e:Pr):qd [pD e]=some (.int ((max e.1 e.2:Nat):Int)):=by refine congrArg (λ z:Int=>some (D.int z)) ?_;simp only[ku];omega
theorem wy(h6:n<=6){os:List Nat}(nd:os.Nodup)(J: ∀x∈os,x<n){C:List Pr}(hl:C.length+1=n)(hq: ∀(i:Nat)(e:Pr),C[i]?=some e-> ∃o,o<i+1/\os[o]?=some e.1/\os[i+1]?=some e.2)
  {U z1 z2 z3 z4 a5 a6 a8 a9 aa ab ac ad ae:Jt.Slot}{g:Jt.M Fl}{Q:Fl->DS->Prop}
  (hg: ∀X:List Pr,Nd n X->Ok g [U,z1,z2,z3,z4,a5,a6,.pu (.lst (C.map pD)),.pu (tD X),a9,aa,ab,ac,ad,ae] Q):
  Ok (br (eB 8 (mC dQ (aR (do let xs<- (mQ sortU (do let x<- (do let xs<- (bB 15 1 (do let x<- (aV 7);lift (bH x)) (bF (bT 15) (pure true) (dm (aR (mC pj (aR (aV 15) (pure []))) (aR (mC qd (aR (aV 15) (pure []))) (pure []))))));pure (D.lst xs));lift (lP x)));pure (D.lst xs)) (pure [])))) g) [U,z1,z2,z3,z4,a5,a6,.pu (.lst (C.map pD)),a8,a9,aa,ab,ac,ad,ae] Q:=by
 obtain⟨X,I,TX⟩:=rP nd J h6 (P:=C.map λ e=>(min e.1 e.2,max e.1 e.2)) (by simpa using hl) λ i e he=>by rw[List.getElem?_map]at he;cases hz:C[i]? with
  |none=>rw[hz]at he;cases he
  |some e0=>rw[hz]at he;cases he;obtain⟨o,ho,h1,h2⟩:=hq i e0 hz;exact⟨o,ho,_,_,h1,h2,rfl⟩
 refine ck (λ δ=>δ=[U,z1,z2,z3,z4,a5,a6,.pu (.lst (C.map pD)),.pu (tD X),a9,aa,ab,ac,ad,ae]) ?_ (by rintro _ rfl;exact hg X TX);simp only[mG,jv,d3,bL,HS,bU];have si:bH (.lst (C.map pD))=some (bC (C.map pD)):=rfl;refine cw C pD (λ e=>some (pD (min e.1 e.2,max e.1 e.2))) rfl ?_ (by omega) (λ e _=>?_) ?_;. simp[si]
 .have m1:=Pf e;have m2:=Pj e;have fe:pD (min e.1 e.2,max e.1 e.2)= .tup [.int ((min e.1 e.2:Nat):Int),.int ((max e.1 e.2:Nat):Int)]:=rfl;rw[fe];simp[m1,m2]
 .rw[List.filterMap_eq_map'];have sq:lP (.lst (C.map λ e=>pD (min e.1 e.2,max e.1 e.2)))=some (C.map λ e=>pD (min e.1 e.2,max e.1 e.2)):=rfl;rw[List.map_map]at I;have I:sortU (C.map λ e=>pD (min e.1 e.2,max e.1 e.2))=some (X.map pD):=I;rw[sq,gY,I];simp only[fU,gY];exact⟨by simp,trivial,rfl⟩
end K23
namespace K23
open PySem L2 Jt Jt.Tu
variable {hs:List (List Int)} {M:Nat}
theorem NT(h:ys.length<=60)(o: ∀y∈ys,Short y):rF (.tup ys):=⟨qf h,λ xs e=>by cases e;exact o⟩
theorem MQ(h: ∀xs,d≠ .tup xs):rF d:=⟨λ xs e=>absurd e (h xs),λ xs e=>absurd e (h xs)⟩
theorem AJ(e:Pr):Short (pD e):=qf (by simp)
noncomputable def P7:D->Bool
 | .tup xs=>decide (xs.length<=60)
 |_=>true
noncomputable def Qh:D->Bool
 | .tup xs=>decide (xs.length<=60)&&xs.all P7
 |_=>true
theorem NQ(h:P7 d=true):Short d:= λ xs e=>by subst e;exact of_decide_eq_true h
theorem Om(h:Qh d=true):rF d:=by
 refine⟨λ xs e=>?_,λ xs e x hx=>?_⟩ <;> subst e <;> have h:=Bool.and_eq_true_iff.mp h;. exact of_decide_eq_true h.1
 .exact NQ (List.all_eq_true.mp h.2 x hx)
theorem B6(h:d∈vM):rF d:=Om (List.all_eq_true.mp (show vM.all Qh=true by decide+kernel) d h)
theorem EI(h:X.length<=60):rF (tD X):=NT (by simpa using h) λ y o=>by obtain⟨e,_,rfl⟩:=List.mem_map.mp o;exact AJ e
theorem Nz(n0:Int): ∃d o,cz xx tN [.int n0] []=some (d,o)/\rF d/\ ∃n:Int,o=[.int n]:=by
 apply gW;show Ok tN [.ow true [.int n0],.un] _;unfold tN;have I:=m_law_take n0 28 (by omega) (by omega);have J:De (.int 10) (.int 39)=some (.int (10^39)):=by first|rfl|(simp[De];done)|(unfold De;rw[if_pos (by decide)];rfl)
 obtain⟨d,hd,e⟩:=FU vM n0 (by decide);refine ck (λ C=>C=[.ow true [.int n0],.pu (.lst (vM.take 19))]) (by rfl') ?_;rintro _ rfl;refine ck (λ C=>C=[.ow true [.int n0],.pu (.lst vM)]) (by rfl') ?_;rintro _ rfl;have U:cj [.lst vM]=some (.int 28):=rfl;have e:dq (.lst vM) (.int (n0%28))=some d:=e;rfl';exact⟨_,_,rfl,rfl,B6 hd,_,rfl⟩
theorem Nf(r:List Nat):f9 true (rD r) (rD r)=some (.bl false):=by
 have e:lD r=(r.map λ(i:Nat)=>(i:Int)).map .int:=by simp[lD]
 have:=uk 7 (r.map λ(i:Nat)=>i) (r.map λ(i:Nat)=>i);unfold rD;rw[e];simp[-List.map_map,f9,jB,dI,this]
theorem Df(w:Str):f9 true (.lst [.str w,.str w]) (.lst [.str w,.str w])=some (.bl false):=by simp[f9,jB,dI,dI.go,flat,xG]
theorem eq_str(w:Str):cQ true (.str w) (.str w)=some (.bl false):=by simp[cQ,flat,ke]
theorem J9(hs:List (List Int))(c:Nat):(hs.filter λ h=>decide ((c:Int)∈h)).length=(vc hs c).length:=by
 have e:hs=(List.range hs.length).map λ i=>hs.getD i []:=by refine List.ext_getElem (by simp) λ i o C=>?_;simp[o]
 conv=>lhs;rw[e];rw[List.filter_map,List.length_map]
 rfl
theorem AQ(hs:List (List Int))(j:Nat):nV hs (j+1)=nV hs j+max (((vc hs j).length:Int) -1) 0:=by unfold nV;rw[List.range_succ];simp
theorem vw{J:Addr->Option Str}(ab:J I=some "! head")(ae:J C=some "! tree"){X:List Pr}(h1:1<=hs.length)(h6:hs.length<=6)(it:bg eS dk [bW M hs,tD X]=some (.bl true)){t:D}(dt:rF t){z0 z1 z2 z5 z6 z7 z9 za zb zc zd:Jt.Slot}:
  Ok (br (eY (vj (fC (do let x<- (mC (bh 1 (bg mm kY)) (aR (aV 14) (pure [])));lift (eL x))) (fC ((BB zT sv (pure (.int 0)) (aV 14) (aV 4)) >>= dD))) (br (eY ((m2 (f9 true) (do let xs<- (bB 15 1 (do let x<- (do let xs<- (dW (aR (pure (.int 0)) (aR (aV 14) (pure []))));pure (D.lst xs));lift (bH x)) (bF (bT 15) (pure true) (mC (bh 5 (bg gh (eR I C J))) (aR (pure (.int 1)) (aR (aV 3) (aR (aV 8) (aR (aV 15) (aR (aV 14) (pure [])))))))));pure (D.lst xs)) (do let xs<- (dW (aR (pure (.str "! head")) (aR (pure (.str "! head")) (pure []))));pure (D.lst xs))) >>= dD) (do let d<- (pure (.bl false));pure (Fl.rt d)) (pure .nx))
  (eY (m2 (cQ true) (mC (bh 5 (bg gh (eR I C J))) (aR (pure (.int 1)) (aR (aV 3) (aR (aV 8) (aR (aV 14) (aR (pure (.int 0)) (pure []))))))) (pure (.str "! head")) >>= dD) (do let d<- (pure (.bl false));pure (Fl.rt d)) (pure .nx))) (pure .nx))
  (eY (fC (do let x<- (mC (bh 2 (bg vW j7)) (aR (aV 3) (aR (aV 14) (pure []))));lift (eL x))) (eY ((m2 (f9 true) (do let xs<- (bB 15 1 (mC dz (aR (pure (.int 2)) (pure []))) (bF (bT 15) (pure true) (mC (bh 5 (bg gh (eR I C J))) (aR (aV 15) (aR (aV 3) (aR (aV 14) (aR (aV 14) (aR (aV 14) (pure [])))))))));pure (D.lst xs)) (do let xs<- (dW (aR (pure (.str "! tree")) (aR (pure (.str "! tree")) (pure []))));pure (D.lst xs))) >>= dD) (do let d<- (pure (.bl false));pure (Fl.rt d)) (pure .nx)) (pure .nx))) [z0,z1,z2,.pu (bW M hs),.pu (.int (hs.length:Int)),z5,z6,z7,.pu (tD X),z9,za,zb,zc,zd,.pu t] λ fl o=>fl= .nx/\o=[z0,z1,z2,.pu (bW M hs),.pu (.int (hs.length:Int)),z5,z6,z7,.pu (tD X),z9,za,zb,zc,zd,.pu t]:=by
 obtain⟨b,e1,e2,_,_⟩:=qp (M:=M) h1 h6 dt;have b0:cm (hs.length:Int) (.int 0)=true:=yt (a:=0) (by omega);have s1: ∀x y:D,cm (hs.length:Int) x=false->bg gh (eR I C J) [.int 1,bW M hs,tD X,x,y]=some (.str "! head"):= λ x y h=>CZ ab (zW I C M it h);have s2: ∀y:D,cm (hs.length:Int) y=false->bg gh (eR I C J) [.int 1,bW M hs,tD X,.int 0,y]=some (.str "! head"):= λ y h=>CZ ab (zr I C M it b0 h);have s3:b=false->bg gh (eR I C J) [.int 0,bW M hs,t,t,t]=some (.str "! tree"):= λ h=>MD ae (ua C (h▸e1));have s4:b=false->bg gh (eR I C J) [.int 1,bW M hs,t,t,t]=some (.str "! tree"):= λ h=>CZ ae (CB I C (h▸e1));have ew:=i5 t;generalize eR I C J=bs at*;generalize bW (M:Int) hs=lay at*;generalize tD X=td at*;have q1:=Df "! head";have q2:=Df "! tree";have q3:=eq_str "! head";generalize(("! head":Str))=w1 at*;generalize(("! tree":Str))=w2 at*;generalize hδ:[z0,z1,z2,.pu lay,.pu (.int (hs.length:Int)),z5,z6,z7,.pu td,z9,za,zb,zc,zd,.pu t]=δ
 have no: ∀{t:Jt.M Bool},Ok t δ (λ b o=>b=false/\o=δ)->Ok (eY t (do let d<- (pure (.bl false));pure (Fl.rt d)) (pure .nx)) δ λ fl o=>fl= .nx/\o=δ:= λ{t} h=>fS _ h (λ _ h=>by cases h.1) (by rintro _ ⟨_,rfl⟩;exact oPure ⟨rfl,rfl⟩)
 refine ck (λ o=>o=δ) (fS (λ b' o=>b'= !cm (hs.length:Int) t/\o=δ) ?_ ?_ (by rintro _ ⟨_,rfl⟩;exact oPure ⟨rfl,rfl⟩)) ?_
 .subst hδ;cases hi:isInt t with
  |true=>
   obtain⟨i,rfl⟩:=mU hi;rw[hi]at ew;by_cases h:0<=i
   .have l:zT (.int 0) (.int i)=some (.bl true):=by simp[zT,df,h]
    rw[show cm hs.length (.int i)=decide (i<hs.length)by simp[cm,h]];rfl'
   .have l:zT (.int 0) (.int i)=some (.bl false):=by simp[zT,df,h]
    rw[show cm hs.length (.int i)=false by simp[cm,h]];rfl'
  |false=>
   rw[hi]at ew;rw[show cm hs.length t=false from Bool.eq_false_iff.mpr λ z=>by obtain⟨i,rfl⟩:=kz z;cases hi];rfl'
 .rintro δ ⟨U,rfl⟩;have U:cm (hs.length:Int) t=false:=by simpa using U.symm
  have r1:=s1 t t U;have r2:=s2 t U;have r3:=s1 t (.int 0) U;refine ck (λ o=>o=δ) (no ?_) ?_
  .subst hδ;rfl';refine lY [.int 0,t] (λ _=>some (.str w1)) rfl (by rfl') (by simp) (λ d hd=>?_) ?_
   .simp only[List.mem_cons,List.not_mem_nil,or_false]at hd;rcases hd with rfl|rfl <;> rfl'
   .show Ok (pure (D.lst [.str w1,.str w1])) _ _;rfl'
  .rintro δ rfl;refine no ?_;subst hδ;rfl'
 rintro δ rfl;refine fS (λ b' o=>b'= !b/\o=δ) (by subst hδ;rfl') ?_ (by rintro _ ⟨_,rfl⟩;exact oPure ⟨rfl,rfl⟩)
 rintro δ ⟨U,rfl⟩;have U:b=false:=by simpa using U.symm
 have r3:=s3 U;have r4:=s4 U;refine no ?_;subst hδ;have rg:dz [.int 2]=some (bC [.int 0,.int 1]):=rfl;rfl';refine lY [.int 0,.int 1] (λ _=>some (.str w2)) rfl (by rfl') (by simp) (λ d hd=>?_) ?_
 .simp only[List.mem_cons,List.not_mem_nil,or_false]at hd;rcases hd with rfl|rfl <;> rfl'
 .show Ok (pure (D.lst [.str w2,.str w2])) _ _;rfl'
end K23
namespace K23
open PySem L2 Jt
noncomputable abbrev dh:Stmt:=top 50
noncomputable abbrev i6:List Str:=["_law_e","_law_kinds","_law_words"]
theorem kc:bf i6 ["_law_e"] (aW dh):=⟨rfl,rfl,rfl,by decide+kernel,rfl,by decide+kernel,by decide+kernel⟩
noncomputable def g_:List Str:=["! head","! column","! tree","! tables","! number","! row","! text","! bound","! many","! layout","! order","! deed"]
section
variable {P:Program} {w:World} {K:PySem.W.Frag} {mg:Str->Option Value} {base:Heap}
noncomputable abbrev xk(P:Program)(w:World)(K:PySem.W.Frag)(mg:Str->Option Value)(base:Heap)(f:Addr)(cdv:Value)(A:Around)(outer:List Env)(s:Shared)(H:Hp)(a:Addr)(o:Obj):Cx:=NG P w K mg base i6 "_law_kind" (aW dh) f cdv A outer s H a o
structure w_ (K:PySem.W.Frag) (mg:Str->Option Value) (D:Addr) (cs:List Addr) (bs:List Bool):Prop where
 mi:mg "isinstance" = none
 mv:mg "ValueError" = none
 ve:PySem.W.kitOne K (.ref D) (.type "ValueError")=some true
 ms:(["NoHead","NoColumn","NoTree","NoTables","NoNumber","NoRow","NoText","Bound","TooMany","NoLayout","NoOrder","NoDeed"]:List Str).map mg=cs.map fun C=>some (.ref C)
 ks:cs.map (fun C=>PySem.W.kitOne K (.ref D) (.ref C))=bs.map some
noncomputable def J7(a:Addr)(p q r t:Bool):TE:=Gj (d7 (sf 0 a p) (d7 (sf 0 a q) (d7 (sf 0 a r) (d7 (sf 0 a t) wX))))
noncomputable def AF(K:PySem.W.Frag)(a:Addr)(b1 J U b4 b5 b6 b7 b8 b9 o C I:Bool):TS:=
 zj (lH (J7 a b1 J U b4) (ik 1)) (zj (lH (xu ye (qI 1) (J7 a b5 b6 b7 b8)) (ik 1)) (zj (lH (xu ye (qI 1) (J7 a b9 o C I)) (ik 1))
  (zj (MG (Qb (Me (λ σ H Q=>sf 0 a true σ H λ x H'=> ∃k,E_ K x H' k/\Q k H')) (uZ (xu ND (OG K "list" rJ (qI 1) (d7 (tC (.bl true)) wX)) (tC (.int 1))))) (Kf (tC (.str "! other"))) IC)
  (zj (lH (Gj (d7 (tC (.str "! head")) (d7 (tC (.str "! column")) (d7 (tC (.str "! tree")) (d7 (tC (.str "! tables")) (d7 (tC (.str "! number")) (d7 (tC (.str "! row")) (d7 (tC (.str "! text")) (d7 (tC (.str "! bound")) (d7 (tC (.str "! many")) wX)))))))))) (ik 2))
  (Kf (xu (O9 K) (xu ye (qI 2) (Gj (d7 (tC (.str "! layout")) (d7 (tC (.str "! order")) (d7 (tC (.str "! deed")) wX))))) (OG K "list" yi (qI 1) (d7 (tC (.bl true)) wX))))))))
theorem FE{f D c1 c2 c3 c4 c5 c6 c7 c8 c9 ab ae af:Addr}{b1 b2 b3 b4 b5 b6 b7 b8 b9 J U aa:Bool}{cdv:Value}{A:Around}{outer:List Env}{s:Shared}{H:Hp}{a:Addr}{o:Obj}(E:oJ K D)(Z:w_ K mg D [c1,c2,c3,c4,c5,c6,c7,c8,c9,ab,ae,af] [b1,b2,b3,b4,b5,b6,b7,b8,b9,J,U,aa])(z:D5 (.ref D) o):
  oI (xk P w K mg base f cdv A outer s H a o) (cq dh) (AF K a b1 b2 b3 b4 b5 b6 b7 b8 b9 J U aa):=by
 have ms:=Z.ms;have ks:=Z.ks;simp only[List.map_cons,List.map_nil,List.cons.injEq,and_true]at ms ks;obtain⟨m1,m2,m3,m4,m5,m6,m7,m8,m9,ag,ah,ai⟩:=ms;obtain⟨k1,k2,k3,k4,k5,k6,k7,k8,k9,aj,ak,ao⟩:=ks;have mem:(a,o)∈(xk P w K mg base f cdv A outer s H a o).pn:=List.mem_cons_self;have I: ∀{y:Str}{C:Addr}{b:Bool}{p1 p2 p3 p4:Pos},PySem.W.kitOne K (.ref D) (.ref C)=some b->mg y=some (.ref C)->Gl (xk P w K mg base f cdv A outer s H a o) y->(y==("__debug__":Str))=false->PE (xk P w K mg base f cdv A outer s H a o) (.Call (.Name "isinstance" p1) [.Name "_law_e" p2,.Name y p3] [] p4) (sf 0 a b):=
  λ{y C b p1 p2 p3 p4} e m g d=>JB (X:=xk P w K mg base f cdv A outer s H a o) (i:=0) (x:="_law_e") E mem z e Z.mi m rfl (.inl rfl) rfl g (by decide) (by decide) d;have aq: ∀{p1 p2 p3 p4:Pos},PE (xk P w K mg base f cdv A outer s H a o) (.Call (.Name "isinstance" p1) [.Name "_law_e" p2,.Name "ValueError" p3] [] p4) (sf 0 a true):=
  λ{p1 p2 p3 p4}=>GD (X:=xk P w K mg base f cdv A outer s H a o) (i:=0) (x:="_law_e") E mem z Z.ve Z.mi Z.mv (by decide+kernel) rfl (.inl rfl) rfl rfl (by decide) (by decide) (by decide) (by decide);have kn: ∀{p:Pos},PE (xk P w K mg base f cdv A outer s H a o) (.Name "_law_kinds" p) (qI 1):= λ{p}=>dP rfl (.inl rfl);have wn: ∀{p:Pos},PE (xk P w K mg base f cdv A outer s H a o) (.Name "_law_words" p) (qI 2):= λ{p}=>dP rfl (.inl rfl);have nd:=kc.nd;unfold AF;refine gN ?_ ?_;. exact jC (X:=xk P w K mg base f cdv A outer s H a o) (i:=1) (x:="_law_kinds") nd rfl (.inl rfl) (kM (bu (I k1 m1 rfl rfl) (bu (I k2 m2 rfl rfl) (bu (I k3 m3 rfl rfl) (bu (I k4 m4 rfl rfl) da))))) rfl (.inr rfl)
 refine gN ?_ ?_;. exact jC (X:=xk P w K mg base f cdv A outer s H a o) (i:=1) (x:="_law_kinds") nd rfl (.inl rfl) (t_ l6 kn (kM (bu (I k5 m5 rfl rfl) (bu (I k6 m6 rfl rfl) (bu (I k7 m7 rfl rfl) (bu (I k8 m8 rfl rfl) da)))))) rfl (.inr rfl)
 refine gN ?_ ?_;. exact jC (X:=xk P w K mg base f cdv A outer s H a o) (i:=1) (x:="_law_kinds") nd rfl (.inl rfl) (t_ l6 kn (kM (bu (I k9 m9 rfl rfl) (bu (I aj ag rfl rfl) (bu (I ak ah rfl rfl) (bu (I ao ai rfl rfl) da)))))) rfl (.inr rfl)
 refine gN ?_ ?_;. exact HI (PW.pt (HR (Ak (uI aq (by intro _;rfl))) (BX (q0 B8 (yw PySem.F.plainAttrs_list PySem.F.slot_list_count PySem.F.type_list_count yI kn (bu AO da)) v7 rfl)))) (l3 (sx eG)) yh
 refine gN ?_ ?_;. exact jC (X:=xk P w K mg base f cdv A outer s H a o) (i:=2) (x:="_law_words") nd rfl (.inl rfl) (kM (bu eG (bu eG (bu eG (bu eG (bu eG (bu eG (bu eG (bu eG (bu eG da)))))))))) rfl (.inr rfl)
 exact l3 (sx (C6 Bk (t_ l6 wn (kM (bu eG (bu eG (bu eG da))))) (yw PySem.F.plainAttrs_list PySem.F.slot_list_index PySem.F.type_list_index zM kn (bu AO da)) (λ _ _=>rfl)))
theorem gq:upd H p v p=some v:=by simp[upd]
theorem gZ{v u:HO}(h:H q=some u)(o:H p=none):upd H p v q=some u:=by
 have:q≠p:= λ e=>by rw[e,o]at h;cases h
 simp[upd,this,h]
theorem gf(s:jO H H')(h:H' p=none):jO H (upd H' p v):= λ b o e=>gZ (s b o e) h
theorem BJ{b1 J U b4 b5 b6 b7 b8 b9 o C I:Bool}{Q:VK}{H:Hp}{j:Nat}{wd:Str}(hc:[b1,J,U,b4,b5,b6,b7,b8,b9,o,C,I].count true=1)(hj:[b1,J,U,b4,b5,b6,b7,b8,b9,o,C,I][j]?=some true)
  (aa: ∀m,m<j->[b1,J,U,b4,b5,b6,b7,b8,b9,o,C,I][m]?=some false)(hw:g_[j]?=some wd)(hQ: ∀H',jO H H'->Q (.str wd) H'):
  AF K a b1 J U b4 b5 b6 b7 b8 b9 o C I { nx:= λ _ H'=>Q .non H',rt:=Q } (L2.start i6 [.ref a]) H:=by have s0:jO H H:= λ _ _ e=>e;refine⟨rfl,rfl,rfl,rfl,show 4<=sizeLine by decide,λ p1 n1=>?_⟩;have s1:=gf (v:= .lst [.bl b1,.bl J,.bl U,.bl b4]) s0 n1;refine⟨.ref p1,rfl,rfl,rfl,rfl,rfl,show 4<=sizeLine by decide,λ p2 n2=>?_⟩;have s2:=gf (v:= .lst [.bl b5,.bl b6,.bl b7,.bl b8]) s1 n2;refine⟨p1,p2,_,_,rfl,rfl,.inl (gZ gq n2),.inl gq,show 8<=sizeLine by decide,λ p3 n3=>?_⟩;have s3:=gf (v:= .lst ([.bl b1,.bl J,.bl U,.bl b4]++[.bl b5,.bl b6,.bl b7,.bl b8])) s2 n3;refine⟨.ref p3,rfl,rfl,rfl,rfl,rfl,show 4<=sizeLine by decide,λ p4 n4=>?_⟩;have s4:=gf (v:= .lst [.bl b9,.bl o,.bl C,.bl I]) s3 n4;refine⟨p3,p4,_,_,rfl,rfl,.inl (gZ gq n4),.inl gq,show 12<=sizeLine by decide,λ p5 n5=>?_⟩;have s5:=gf (v:= .lst ([b1,J,U,b4,b5,b6,b7,b8,b9,o,C,I].map V.bl)) s4 n5;refine⟨rfl,true,rfl,?_⟩;show uZ (xu ND (OG K "list" rJ (qI 1) (d7 (tC (.bl true)) wX)) (tC (.int 1))) _ _ _;refine⟨.ref p5,rfl,.inl ⟨rfl,_,.inl (.inl gq)⟩,p5,[b1,J,U,b4,b5,b6,b7,b8,b9,o,C,I],rfl,rfl,gq,rfl,_,rfl,?_⟩;dsimp only;rw[hc,if_neg (by decide)];refine⟨show 9<=sizeLine by decide,λ p6 n6=>?_⟩;have s6:=gf (v:= .lst ((g_.take 9).map V.str)) s5 n6;refine⟨.ref p6,rfl,show 3<=sizeLine by decide,λ p7 n7=>?_⟩;have s7:=gf (v:= .lst ((g_.drop 9).map V.str)) s6 n7;refine⟨p6,p7,_,_,rfl,rfl,.inl (gZ gq n7),.inl gq,show 12<=sizeLine by decide,λ p8 n8=>?_⟩;have s8:=gf (v:= .lst (g_.map V.str)) s7 n8;have h5:=gZ (v:= .lst (g_.map V.str)) (gZ (v:= .lst ((g_.drop 9).map V.str)) (gZ (v:= .lst ((g_.take 9).map V.str)) (gq (H:=_) (p:=p5) (v:= .lst ([b1,J,U,b4,b5,b6,b7,b8,b9,o,C,I].map V.bl))) n6) n7) n8;refine⟨.ref p5,rfl,.inl ⟨rfl,_,.inl (.inl h5)⟩,p5,[b1,J,U,b4,b5,b6,b7,b8,b9,o,C,I],j,rfl,rfl,h5,by simp,hj,aa,.inl ⟨p8,_,j,.str wd,rfl,rfl,.inl (.inl gq),?_,hQ _ s8⟩⟩;show jL (g_.map V.str) (j:Int)=some (.str wd);exact L2.atI_nat (by rw[List.getElem?_map,hw];rfl)
theorem km{f D c1 c2 c3 c4 c5 c6 c7 c8 c9 aa ab ae:Addr}{fd:FuncData}{b1 U b3 b4 b5 b6 b7 b8 b9 C I J:Bool}{j:Nat}{wd:Str}(F:zZ K "_law_kind" "_law_kind" dh f fd)(E:oJ K D)
  (Z:w_ K mg D [c1,c2,c3,c4,c5,c6,c7,c8,c9,aa,ab,ae] [b1,U,b3,b4,b5,b6,b7,b8,b9,C,I,J])(hc:[b1,U,b3,b4,b5,b6,b7,b8,b9,C,I,J].count true=1)(hj:[b1,U,b3,b4,b5,b6,b7,b8,b9,C,I,J][j]?=some true)
  (af: ∀m,m<j->[b1,U,b3,b4,b5,b6,b7,b8,b9,C,I,J][m]?=some false)(hw:g_[j]?=some wd):OB P w K mg base (k+1) f fd ["_law_e"] D (.str wd):=
 Qp F kc rfl λ cdv A outer s H a o z _=>⟨_,FE E Z z,λ Q hQ=>BJ hc hj af hw hQ⟩
end
end K23
namespace K23
open PySem L2 Jt
open Jt.Tu (sortU)
open Builtin.Int (intBits)
inductive LS (z0:Jt.Slot):DS->Prop
 | mk (a1 a2 a3 a4 a5 a6 a7 a8 a9 aa ab ac ad ae:Jt.Slot):LS z0 [z0,a1,a2,a3,a4,a5,a6,a7,a8,a9,aa,ab,ac,ad,ae]
theorem zw(C1 C2:Addr)(kn:Addr->Option Str)(hk1:kn C1=some "! head")(hk2:kn C2=some "! tree"): ∀ns:List Int,ns.length<=63->(∀i∈ns,intBits i<=2^20)->bg gM (xV C1 C2 kn) [.lst (ns.map .int)]=some (.bl true):=by
 intro ns hns hbits;apply bJ;show Ok (xV C1 C2 kn) [.pu (.lst (ns.map .int)),.un,.un,.un,.un,.un,.un,.un,.un,.un,.un,.un,.un,.un,.un] _;unfold xV;refine ck (LS (.pu (.lst (ns.map .int)))) ?_ ?_
 .obtain⟨N0,m1,h0⟩: ∃N0:Nat,kD [.int ((ns.map D.int).length:Int),.int 5]=some (.int N0)/\N0<=5:=⟨min ns.length 5,by show some (D.int _)=_;refine congrArg (λ z:Int=>some (D.int z)) ?_;rw[List.length_map];split <;> omega,by omega⟩
  obtain⟨N,m2,hN2⟩: ∃N:Nat,jq [.int 1,.int N0]=some (.int N)/\N<=5:=⟨max 1 N0,by show some (D.int _)=_;refine congrArg (λ z:Int=>some (D.int z)) ?_;split <;> omega,by omega⟩
  have rN:=fE (M:=N) (by omega)
  refine gg (cb 0 N) (λ _ o=>LS (.pu (.lst (ns.map .int))) o) ?_ (.mk ..) ?_ ?_;. rfl'
  .rintro k hk' _ ⟨a1,a2,a3,a4,a5,a6,a7,a8,a9,U,ab,ac,ad,ae⟩;have hkN:k<N:=by simpa[cb]using hk'
   rw[eI];refine oSet rfl ?_;simp only[List.set_cons_succ,List.set_cons_zero];obtain⟨n,en⟩:=zH ns hbits k (by omega);obtain⟨d,xs',el,m,hs,n1,rfl,rfl,h1,h6,hm,hq⟩:=qK n (P:=7) (Z:=6) (by omega) (by omega) (by omega) (by omega);obtain⟨M,rfl⟩: ∃M:Nat,m=(M:Int):=⟨m.toNat,by omega⟩;have h7: ∀h∈hs,h.length<=7:= λ h hh=>(hq h hh).len (by omega) (by omega);have hM:M<=7:=by omega
   have h7':((7:Nat):Int)=7:=rfl;have h6':((6:Nat):Int)=6:=rfl;rw[h7',h6']at el;refine ck (λ o=>o=[.pu (.lst (ns.map .int)),.pu (.int (k:Int)),.ow false [.int n],a3,a4,a5,a6,a7,a8,a9,U,ab,ac,ad,ae]) (by rfl') ?_;rintro _ rfl;refine ck (λ o=>o=[.pu (.lst (ns.map .int)),.pu (.int (k:Int)),.ow false [.int n1],.pu (bW M hs),a4,a5,a6,a7,a8,a9,U,ab,ac,ad,ae]) ?_ ?_;. rfl'
   rintro _ rfl;generalize D.lst (ns.map .int)=C;have e0:=va (M:Int) hs;have e1:=fw (M:Int) hs;have e2:=jK hs;refine ck (λ o=>o=[.pu C,.pu (.int (k:Int)),.ow false [.int n1],.pu (bW M hs),.pu (.int (hs.length:Int)),a5,a6,a7,a8,a9,U,ab,ac,ad,ae]) (by rfl') ?_;rintro _ rfl;refine uB h1 h6 λ m2 os a5 ol ond olt=>?_;refine sU h1 h6 ol λ m3 qs ql hq2=>?_;refine wy h6 ond olt ql hq2 λ X TX=>?_;have hX:X.length<=5:=by have:=TX.len;omega
   have hr: ∀e∈X,e.1<hs.length/\e.2<hs.length:= λ e he=>by have:=TX.ok e he;omega
   have it:bg eS dk [bW M hs,tD X]=some (.bl true):=by
    obtain⟨b,e,_,_,q⟩:=qp (M:=M) h1 h6 (EI (X:=X) (by omega));rw[q X TX rfl]at e;exact e
   have wo:=Od (M:=M) h7 (by omega) hr it;have dw:=Oc (M:=M) h6 hM;have wl:= λ e:Pr=>HK h7 e
   refine ck (λ o=>o=[.pu C,.pu (.int (k:Int)),.ow false [.int m3],.pu (bW M hs),.pu (.int (hs.length:Int)),a5,.pu (.lst (lD os)),.pu (.lst (qs.map pD)),.pu (tD X),.pu (.int (X.map (wh hs)).sum),U,ab,ac,ad,ae]) ?_ ?_
   .have si:bH (tD X)=some (bC (X.map pD)):=rfl
    generalize bW (M:Int) hs=lay at*
    generalize tD X=td at*
    generalize D.lst (lD os)=I
    generalize D.lst (qs.map pD)=J
    rfl'
    refine cw X pD (λ e=>some (.int (wh hs e))) rfl (by rfl') (by omega) (λ e he=>?_) ?_
    .have g1:=qG (hr e he).1
     have g2:=qG (hr e he).2
     have gl:(G hs e.1).length<=7:=by
      have:G hs e.1=hs[e.1]'(hr e he).1:=by simp[G,(hr e he).1]
      rw[this];exact h7 _ (List.getElem_mem _)
     have hl:cj [.lst ((nk hs e.1 e.2).map .int)]=some (.int (wh hs e)):=by simp[cj,nk,wh,G]
     show Ok (bF _ _ _ (.tup [.int (e.1:Int),.int (e.2:Int)])) _ _
     rfl'
     refine cw (G hs e.1) .int (λ c=>if decide (c∈G hs e.2)=true then some (.int c)else none) rfl (by rfl') (by omega) (λ c _=>?_) ?_
     .have di:=pF false c (G hs e.2);cases q:decide (c∈G hs e.2) <;> rw[q]at di <;> rfl'
     .rw[cY,show((G hs e.1).filter λ c=>decide (c∈G hs e.2))=nk hs e.1 e.2 from rfl];rfl'
    .rw[List.filterMap_eq_map']
     have s:=sum_ints (X.map (wh hs)) (by simp;omega) λ i hi=>by
      obtain⟨e,_,rfl⟩:=List.mem_map.mp hi
      have:=wl e
      exact⟨by unfold wh;omega,by omega⟩
     rw[List.map_map]at s
     have s:o_ [.lst (X.map λ e=>D.int (wh hs e))]=some (.int (X.map (wh hs)).sum):=s
     rfl'
   rintro _ rfl
   refine gU false ?_ (λ h=>by cases h) (λ _=>?_)
   .have q:f9 true (.int (X.map (wh hs)).sum) (.int (X.map (wh hs)).sum)=some (.bl false):=by rw[qV];simp
    generalize(X.map (wh hs)).sum=W at*
    generalize bW (M:Int) hs=lay at*
    generalize tD X=td at*
    have ew:=i5 (.int W)
    rfl'
   generalize D.lst (lD os)=I
   generalize D.lst (qs.map pD)=J
   refine ck (λ o=>o=[.pu C,.pu (.int (k:Int)),.ow false [.int m3],.pu (bW M hs),.pu (.int (hs.length:Int)),a5,.pu I,.pu J,.pu (tD X),.pu (.int 0),U,ab,ac,ad,ae]) (by rfl') ?_
   rintro _ rfl
   refine ck (λ o=> ∃U,o=[.pu C,.pu (.int (k:Int)),.ow false [.int m3],.pu (bW M hs),.pu (.int (hs.length:Int)),a5,.pu I,.pu J,.pu (tD X),.pu (.int (nV hs M)),U,ab,ac,ad,ae]) ?_ ?_
   .have rM:=fE (M:=M) (by omega)
    generalize bW (M:Int) hs=lay at*
    generalize tD X=td at*
    refine gg (cb 0 M) (λ j o=> ∃U,o=[.pu C,.pu (.int (k:Int)),.ow false [.int m3],.pu lay,.pu (.int (hs.length:Int)),a5,.pu I,.pu J,.pu td,.pu (.int (nV hs j)),U,ab,ac,ad,ae]) (by rfl') ⟨U,rfl⟩ ?_ ?_
    .rintro j hj _ ⟨U,rfl⟩
     rw[eI];rfl'
     refine cw hs hD (λ h=>if decide ((j:Int)∈h)=true then some (hD h)else none) rfl (by rfl') (by omega) (λ h hh=>?_) ?_
     .have di:=pF false j h;cases q:decide ((j:Int)∈h) <;> rw[q]at di <;> rfl'
     .rw[cY]
      have hl:cj [.lst ((hs.filter λ h=>decide ((j:Int)∈h)).map hD)]=some (.int ((vc hs j).length:Int)):=by simp[cj,J9]
      have hm:jq [.int 0,.int (((vc hs j).length:Int) -1)]=some (.int (max (((vc hs j).length:Int) -1) 0)):=by
       simp only[jq]
       refine congrArg (λ z:Int=>some (D.int z)) ?_
       omega
      rfl';exact⟨_,by rw[AQ];rfl⟩
    .rintro _ ⟨U,rfl⟩
     have:(cb 0 M).length=M:=by simp[cb]
     rw[this]
     exact⟨rfl,U,rfl⟩
   rintro _ ⟨U,rfl⟩
   refine gU false ?_ (λ h=>by cases h) (λ _=>?_)
   .have q:f9 true (.int (nV hs M)) (.int (nV hs M))=some (.bl false):=by rw[qV];simp
    generalize nV hs M=W at*
    generalize bW (M:Int) hs=lay at*
    generalize tD X=td at*
    rfl'
   generalize D.int (nV hs M)=af
   have rS:=fE (M:=hs.length) (by omega)
   refine ck (λ o=> ∃ab ac,o=[.pu C,.pu (.int (k:Int)),.ow false [.int m3],.pu (bW M hs),.pu (.int (hs.length:Int)),a5,.pu I,.pu J,.pu (tD X),.pu af,U,ab,ac,ad,ae]) ?_ ?_
   .have way: ∀{a g:Nat},a<hs.length->g<hs.length->_:= λ{a g} ha hg=>Nq (M:=M) h1 h6 TX it ha hg
    generalize bW (M:Int) hs=lay at*
    generalize tD X=td at*
    refine gg (cb 0 hs.length) (λ _ o=> ∃ab ac,o=[.pu C,.pu (.int (k:Int)),.ow false [.int m3],.pu lay,.pu (.int (hs.length:Int)),a5,.pu I,.pu J,.pu td,.pu af,U,ab,ac,ad,ae]) (by rfl') ⟨ab,ac,rfl⟩ ?_ ?_
    .rintro i hi _ ⟨ab,ac,rfl⟩
     have hi':i<hs.length:=by simpa[cb]using hi
     rw[eI];refine oSet rfl ?_
     simp only[List.set_cons_succ,List.set_cons_zero]
     refine gg (cb 0 hs.length) (λ _ o=> ∃ac,o=[.pu C,.pu (.int (k:Int)),.ow false [.int m3],.pu lay,.pu (.int (hs.length:Int)),a5,.pu I,.pu J,.pu td,.pu af,U,.pu (.int (i:Int)),ac,ad,ae]) (by rfl') ⟨ac,rfl⟩ ?_ ?_
     .rintro j hj _ ⟨ac,rfl⟩
      have hj':j<hs.length:=by simpa[cb]using hj
      rw[eI];refine oSet rfl ?_
      simp only[List.set_cons_succ,List.set_cons_zero]
      obtain⟨r,w1,w2⟩:=way hi' hj'
      have q:=Nf r
      generalize rD r=rd at*
      rfl';exact⟨_,rfl⟩
     .rintro _ ⟨ac,rfl⟩
      exact⟨_,_,rfl⟩
    .rintro _ ⟨ab,ac,rfl⟩
     exact⟨rfl,_,_,rfl⟩
   rintro _ ⟨ab,ac,rfl⟩
   obtain⟨od,xs',eo,dd,n5,rfl⟩:=Nz m3
   refine ck (λ o=>o=[.pu C,.pu (.int (k:Int)),.ow false [.int n5],.pu (bW M hs),.pu (.int (hs.length:Int)),a5,.pu I,.pu J,.pu (tD X),.pu af,U,ab,ac,.pu od,ae]) ?_ ?_
   .generalize bW (M:Int) hs=lay at*
    generalize tD X=td at*
    rfl'
   rintro _ rfl
   refine gg [od,.int (hs.length:Int),.int (-1),.bl true,.non] (λ _ o=> ∃ae,o=[.pu C,.pu (.int (k:Int)),.ow false [.int n5],.pu (bW M hs),.pu (.int (hs.length:Int)),a5,.pu I,.pu J,.pu (tD X),.pu af,U,ab,ac,.pu od,ae]) ?_ ⟨ae,rfl⟩ ?_ ?_
   .generalize bW (M:Int) hs=lay at*
    generalize tD X=td at*
    rfl'
   .rintro j hj _ ⟨ae,rfl⟩
    have dt:rF [od,.int (hs.length:Int),.int (-1),.bl true,.non][j]:=by
     have:=List.getElem_mem hj
     simp only[List.mem_cons,List.not_mem_nil,or_false]at this
     rcases this with e|e|e|e|e <;> rw[e]
     .exact dd
     all_goals exact MQ (λ _=>by intro h;cases h)
    generalize[od,.int (hs.length:Int),.int (-1),.bl true,.non][j]=t at*
    refine oSet rfl ?_
    refine(vw hk1 hk2 h1 h6 it dt).mono λ fl o hz=>?_
    obtain⟨rfl,rfl⟩:=hz
    exact⟨_,rfl⟩
   .rintro _ ⟨ae,rfl⟩
    exact .mk ..
  .rintro o h
   exact⟨rfl,h⟩
 .rintro _ ⟨⟩
  rfl'
end K23
namespace K23
open PySem L2 Jt
theorem qm {us:List Value} (h:us.length=1):∃ a,us=[a]:=by match us,h with | [a],_=>exact ⟨a,rfl⟩
theorem d6 {us:List Value} (h:us.length=2):∃ a b,us=[a,b]:=by match us,h with | [a,b],_=>exact ⟨a,b,rfl⟩
theorem nv {us:List Value} (h:us.length=3):∃ a b c,us=[a,b,c]:=by match us,h with | [a,b,c],_=>exact ⟨a,b,c,rfl⟩
theorem N3 {us:List Value} (h:us.length=4):∃ a b c d,us=[a,b,c,d]:=by match us,h with | [a,b,c,d],_=>exact ⟨a,b,c,d,rfl⟩
theorem MR {us:List Value} (h:us.length=5):∃ a b c d e,us=[a,b,c,d,e]:=by match us,h with | [a,b,c,d,e],_=>exact ⟨a,b,c,d,e,rfl⟩
noncomputable def JG (c e:Addr):Addr->Option Str:=fun C=>if C=c then some "! head" else if C=e then some "! tree" else none
theorem tI {c e C:Addr} {x:Str} (h:JG c e C=some x):(C=c∧x = "! head") ∨ (C=e∧x = "! tree"):= by
 unfold JG at h
 split at h
 .cases h;exact .inl ⟨by assumption,rfl⟩
 .split at h
  .cases h;exact .inr ⟨by assumption,rfl⟩
  .cases h
theorem J8 (c e:Addr):JG c e c=some "! head":=if_pos rfl
theorem Ff {c e:Addr} (h:e ≠ c):JG c e e=some "! tree":=(if_neg h).trans (if_pos rfl)
theorem all_mk {l:PySem.W.OpenLaw} {w:World} {K:PySem.W.Frag} {h:Heap} {mg:Str->Option Value} {fa:Addr} (X:K.In h) (G:h.Ns mainGlobals mg) (hfa:mg "law" = some (.ref fa))
  {f__law_kind:Addr} {od__law_kind an__law_kind:Option Addr} {sl__law_kind:Array (Option Value)} {oc__law_kind kV__law_kind dc__law_kind pm__law_kind cd__law_kind ct__law_kind:Value}
  {c_NoHead c_NoColumn c_NoTree c_NoTables c_NoNumber c_NoRow c_NoText c_Bound c_TooMany c_NoLayout c_NoOrder c_NoDeed c_JoinError:Addr}
  (u_NoHead:PySem.W.nsIn K mainGlobals "NoHead" = some (some (.ref c_NoHead)))
  (u_NoColumn:PySem.W.nsIn K mainGlobals "NoColumn" = some (some (.ref c_NoColumn)))
  (u_NoTree:PySem.W.nsIn K mainGlobals "NoTree" = some (some (.ref c_NoTree)))
  (u_NoTables:PySem.W.nsIn K mainGlobals "NoTables" = some (some (.ref c_NoTables)))
  (u_NoNumber:PySem.W.nsIn K mainGlobals "NoNumber" = some (some (.ref c_NoNumber)))
  (u_NoRow:PySem.W.nsIn K mainGlobals "NoRow" = some (some (.ref c_NoRow)))
  (u_NoText:PySem.W.nsIn K mainGlobals "NoText" = some (some (.ref c_NoText)))
  (u_Bound:PySem.W.nsIn K mainGlobals "Bound" = some (some (.ref c_Bound)))
  (u_TooMany:PySem.W.nsIn K mainGlobals "TooMany" = some (some (.ref c_TooMany)))
  (u_NoLayout:PySem.W.nsIn K mainGlobals "NoLayout" = some (some (.ref c_NoLayout)))
  (u_NoOrder:PySem.W.nsIn K mainGlobals "NoOrder" = some (some (.ref c_NoOrder)))
  (u_NoDeed:PySem.W.nsIn K mainGlobals "NoDeed" = some (some (.ref c_NoDeed)))
  (u_JoinError:PySem.W.nsIn K mainGlobals "JoinError" = some (some (.ref c_JoinError)))
  (u_ve:PySem.W.nsIn K mainGlobals "ValueError" = some none) (u_isi:PySem.W.nsIn K mainGlobals "isinstance" = some none)
  (E_NoHead:oJ K c_NoHead) (q_NoHead:PySem.W.excIn K c_NoHead [.type "ValueError",.type "Exception",.type "BaseException",.type "object"] "ValueError.__new__" = true)
  (tve_NoHead:PySem.W.kitOne K (.ref c_NoHead) (.type "ValueError")=some true) (tex_NoHead:PySem.W.exmOne K (.ref c_NoHead) (.ref c_JoinError)=some true)
  (t_NoHead_NoHead:PySem.W.kitOne K (.ref c_NoHead) (.ref c_NoHead)=some true)
  (t_NoHead_NoColumn:PySem.W.kitOne K (.ref c_NoHead) (.ref c_NoColumn)=some false)
  (t_NoHead_NoTree:PySem.W.kitOne K (.ref c_NoHead) (.ref c_NoTree)=some false)
  (t_NoHead_NoTables:PySem.W.kitOne K (.ref c_NoHead) (.ref c_NoTables)=some false)
  (t_NoHead_NoNumber:PySem.W.kitOne K (.ref c_NoHead) (.ref c_NoNumber)=some false)
  (t_NoHead_NoRow:PySem.W.kitOne K (.ref c_NoHead) (.ref c_NoRow)=some false)
  (t_NoHead_NoText:PySem.W.kitOne K (.ref c_NoHead) (.ref c_NoText)=some false)
  (t_NoHead_Bound:PySem.W.kitOne K (.ref c_NoHead) (.ref c_Bound)=some false)
  (t_NoHead_TooMany:PySem.W.kitOne K (.ref c_NoHead) (.ref c_TooMany)=some false)
  (t_NoHead_NoLayout:PySem.W.kitOne K (.ref c_NoHead) (.ref c_NoLayout)=some false)
  (t_NoHead_NoOrder:PySem.W.kitOne K (.ref c_NoHead) (.ref c_NoOrder)=some false)
  (t_NoHead_NoDeed:PySem.W.kitOne K (.ref c_NoHead) (.ref c_NoDeed)=some false)
  (E_NoTree:oJ K c_NoTree) (q_NoTree:PySem.W.excIn K c_NoTree [.type "ValueError",.type "Exception",.type "BaseException",.type "object"] "ValueError.__new__" = true)
  (tve_NoTree:PySem.W.kitOne K (.ref c_NoTree) (.type "ValueError")=some true) (tex_NoTree:PySem.W.exmOne K (.ref c_NoTree) (.ref c_JoinError)=some true)
  (t_NoTree_NoHead:PySem.W.kitOne K (.ref c_NoTree) (.ref c_NoHead)=some false)
  (t_NoTree_NoColumn:PySem.W.kitOne K (.ref c_NoTree) (.ref c_NoColumn)=some false)
  (t_NoTree_NoTree:PySem.W.kitOne K (.ref c_NoTree) (.ref c_NoTree)=some true)
  (t_NoTree_NoTables:PySem.W.kitOne K (.ref c_NoTree) (.ref c_NoTables)=some false)
  (t_NoTree_NoNumber:PySem.W.kitOne K (.ref c_NoTree) (.ref c_NoNumber)=some false)
  (t_NoTree_NoRow:PySem.W.kitOne K (.ref c_NoTree) (.ref c_NoRow)=some false)
  (t_NoTree_NoText:PySem.W.kitOne K (.ref c_NoTree) (.ref c_NoText)=some false)
  (t_NoTree_Bound:PySem.W.kitOne K (.ref c_NoTree) (.ref c_Bound)=some false)
  (t_NoTree_TooMany:PySem.W.kitOne K (.ref c_NoTree) (.ref c_TooMany)=some false)
  (t_NoTree_NoLayout:PySem.W.kitOne K (.ref c_NoTree) (.ref c_NoLayout)=some false)
  (t_NoTree_NoOrder:PySem.W.kitOne K (.ref c_NoTree) (.ref c_NoOrder)=some false)
  (t_NoTree_NoDeed:PySem.W.kitOne K (.ref c_NoTree) (.ref c_NoDeed)=some false)
  (a__law_kind:PySem.W.nsIn K mainGlobals "_law_kind" = some (some (.ref f__law_kind))) (l__law_kind:K.lookup f__law_kind=some ⟨oc__law_kind,od__law_kind,.func (PySem.W.fnOf "_law_kind" "_law_kind" (fH dh) (cq dh) (aW dh) .none kV__law_kind dc__law_kind pm__law_kind an__law_kind cd__law_kind ct__law_kind),sl__law_kind⟩) (c__law_kind:PySem.W.codeIn K cd__law_kind "_law_kind" = true) (k__law_kind:PySem.W.keepIn K (.ref f__law_kind)=true)
  (e__law_cell:Fh K "_law_cell" Cu)
  (e__law_mix:Fh K "_law_mix" Dp)
  (e__law_box:Fh K "_law_box" Ae)
  (e__law_take:Fh K "_law_take" Du)
  (e__law_barred:Fh K "_law_barred" Jk)
  (e__law_named:Fh K "_law_named" Dq)
  (e__law_head:Fh K "_law_head" B3)
  (e__law_grown:Fh K "_law_grown" Jq)
  (e__law_layout:Fh K "_law_layout" KI)
  (e__law_odd:Fh K "_law_odd" A5)
  (e_is_whole:Fh K "is_whole" Bf)
  (e_is_below:Fh K "is_below" DM)
  (e_heads_of:Fh K "heads_of" BW)
  (e_due_weight:Fh K "due_weight" Ao)
  (e_linked:Fh K "linked" Cc)
  (e_has_no_ring:Fh K "has_no_ring" Jz)
  (e_is_rising:Fh K "is_rising" BZ)
  (e_are_below:Fh K "are_below" AI)
  (e_is_two_below:Fh K "is_two_below" JX)
  (e_is_pair:Fh K "is_pair" Cq)
  (e_is_tree:Fh K "is_tree" Aj)
  (e_need_tree:Fh K "need_tree" JA)
  (e_need_head:Fh K "need_head" Kg)
  (e_common:Fh K "common" Aa)
  (e_weight_of:Fh K "weight_of" Jc)
  (e__law_whole:Fh K "_law_whole" BH)
  (e__law_hang:Fh K "_law_hang" Aq)
  (e__law_is_pair:Fh K "_law_is_pair" LH)
  (e__law_is_tree:Fh K "_law_is_tree" LP)
  (e_beside_in:Fh K "beside_in" AG)
  (e_way_on:Fh K "way_on" CG)
  (e_way_in:Fh K "way_in" AE)
  (e__law_way:Fh K "_law_way" Ai)
  (e__law_said:Fh K "_law_said" Ck)
  (e_law:Fh K "law" u0)
  (z:PySem.W.nsIn K mainGlobals "all" = some none∧PySem.W.nsIn K mainGlobals "bool" = some none∧PySem.W.nsIn K mainGlobals "divmod" = some none∧PySem.W.nsIn K mainGlobals "enumerate" = some none∧PySem.W.nsIn K mainGlobals "int" = some none∧PySem.W.nsIn K mainGlobals "isinstance" = some none∧PySem.W.nsIn K mainGlobals "len" = some none∧PySem.W.nsIn K mainGlobals "list" = some none∧PySem.W.nsIn K mainGlobals "max" = some none∧PySem.W.nsIn K mainGlobals "min" = some none∧PySem.W.nsIn K mainGlobals "range" = some none∧PySem.W.nsIn K mainGlobals "set" = some none∧PySem.W.nsIn K mainGlobals "sorted" = some none∧PySem.W.nsIn K mainGlobals "sum" = some none∧PySem.W.nsIn K mainGlobals "tuple" = some none∧PySem.W.nsIn K mainGlobals "zip" = some none)
 :∃ fd:FuncData,(∀ (s:Shared) (v:Value),BindsTo s fd ⟨[v],[]⟩ [("_law_script",v)])∧∀ base:Heap,K.In base->base.Ns mainGlobals mg->eD l.prog w K mg base dF 11 fa fd ["_law_script"] vB:= by
 have m:Bi mg:=⟨PySem.W.mg_none_of X G z.1,PySem.W.mg_none_of X G z.2.1,PySem.W.mg_none_of X G z.2.2.1,PySem.W.mg_none_of X G z.2.2.2.1,PySem.W.mg_none_of X G z.2.2.2.2.1,PySem.W.mg_none_of X G z.2.2.2.2.2.1,PySem.W.mg_none_of X G z.2.2.2.2.2.2.1,PySem.W.mg_none_of X G z.2.2.2.2.2.2.2.1,PySem.W.mg_none_of X G z.2.2.2.2.2.2.2.2.1,PySem.W.mg_none_of X G z.2.2.2.2.2.2.2.2.2.1,PySem.W.mg_none_of X G z.2.2.2.2.2.2.2.2.2.2.1,PySem.W.mg_none_of X G z.2.2.2.2.2.2.2.2.2.2.2.1,PySem.W.mg_none_of X G z.2.2.2.2.2.2.2.2.2.2.2.2.1,PySem.W.mg_none_of X G z.2.2.2.2.2.2.2.2.2.2.2.2.2.1,PySem.W.mg_none_of X G z.2.2.2.2.2.2.2.2.2.2.2.2.2.2.1,PySem.W.mg_none_of X G z.2.2.2.2.2.2.2.2.2.2.2.2.2.2.2⟩
 have E__law_cell:=ent X G e__law_cell (ps:=["_law_script","_law_k"]) fun _ _ _ _ _ _ us hl=>by obtain ⟨_,_,rfl⟩:=d6 hl;rfl
 have E__law_mix:=ent X G e__law_mix (ps:=["_law_cell_here","_law_k"]) fun _ _ _ _ _ _ us hl=>by obtain ⟨_,_,rfl⟩:=d6 hl;rfl
 have E__law_box:=ent X G e__law_box (ps:=["_law_script","_law_k"]) fun _ _ _ _ _ _ us hl=>by obtain ⟨_,_,rfl⟩:=d6 hl;rfl
 have E__law_take:=ent X G e__law_take (ps:=["_law_box_here","_law_many"]) fun _ _ _ _ _ _ us hl=>by obtain ⟨_,_,rfl⟩:=d6 hl;rfl
 have E__law_barred:=ent X G e__law_barred (ps:=["_law_box_here","_law_many"]) fun _ _ _ _ _ _ us hl=>by obtain ⟨_,_,rfl⟩:=d6 hl;rfl
 have E__law_named:=ent X G e__law_named (ps:=["_law_box_here","_law_many","_law_heads"]) fun _ _ _ _ _ _ us hl=>by obtain ⟨_,_,_,rfl⟩:=nv hl;rfl
 have E__law_head:=ent X G e__law_head (ps:=["_law_box_here","_law_many"]) fun _ _ _ _ _ _ us hl=>by obtain ⟨_,_,rfl⟩:=d6 hl;rfl
 have E__law_grown:=ent X G e__law_grown (ps:=["_law_box_here","_law_many","_law_heads"]) fun _ _ _ _ _ _ us hl=>by obtain ⟨_,_,_,rfl⟩:=nv hl;rfl
 have E__law_layout:=ent X G e__law_layout (ps:=["_law_box_here","_law_most","_law_heads"]) fun _ _ _ _ _ _ us hl=>by obtain ⟨_,_,_,rfl⟩:=nv hl;rfl
 have E__law_odd:=ent X G e__law_odd (ps:=["_law_box_here"]) fun _ _ _ _ _ _ us hl=>by obtain ⟨_,rfl⟩:=qm hl;rfl
 have E_is_whole:=ent X G e_is_whole (ps:=["thing"]) fun _ _ _ _ _ _ us hl=>by obtain ⟨_,rfl⟩:=qm hl;rfl
 have E_is_below:=ent X G e_is_below (ps:=["thing","many"]) fun _ _ _ _ _ _ us hl=>by obtain ⟨_,_,rfl⟩:=d6 hl;rfl
 have E_heads_of:=ent X G e_heads_of (ps:=["layout","column"]) fun _ _ _ _ _ _ us hl=>by obtain ⟨_,_,rfl⟩:=d6 hl;rfl
 have E_due_weight:=ent X G e_due_weight (ps:=["layout"]) fun _ _ _ _ _ _ us hl=>by obtain ⟨_,rfl⟩:=qm hl;rfl
 have E_linked:=ent X G e_linked (ps:=["labels","one","other"]) fun _ _ _ _ _ _ us hl=>by obtain ⟨_,_,_,rfl⟩:=nv hl;rfl
 have E_has_no_ring:=ent X G e_has_no_ring (ps:=["many","pairs"]) fun _ _ _ _ _ _ us hl=>by obtain ⟨_,_,rfl⟩:=d6 hl;rfl
 have E_is_rising:=ent X G e_is_rising (ps:=["things"]) fun _ _ _ _ _ _ us hl=>by obtain ⟨_,rfl⟩:=qm hl;rfl
 have E_are_below:=ent X G e_are_below (ps:=["thing","many"]) fun _ _ _ _ _ _ us hl=>by obtain ⟨_,_,rfl⟩:=d6 hl;rfl
 have E_is_two_below:=ent X G e_is_two_below (ps:=["thing","many"]) fun _ _ _ _ _ _ us hl=>by obtain ⟨_,_,rfl⟩:=d6 hl;rfl
 have E_is_pair:=ent X G e_is_pair (ps:=["layout","thing"]) fun _ _ _ _ _ _ us hl=>by obtain ⟨_,_,rfl⟩:=d6 hl;rfl
 have E_is_tree:=ent X G e_is_tree (ps:=["layout","thing"]) fun _ _ _ _ _ _ us hl=>by obtain ⟨_,_,rfl⟩:=d6 hl;rfl
 have E_need_tree:=ent X G e_need_tree (ps:=["layout","thing"]) fun _ _ _ _ _ _ us hl=>by obtain ⟨_,_,rfl⟩:=d6 hl;rfl
 have E_need_head:=ent X G e_need_head (ps:=["layout","thing"]) fun _ _ _ _ _ _ us hl=>by obtain ⟨_,_,rfl⟩:=d6 hl;rfl
 have E_common:=ent X G e_common (ps:=["layout","one","other"]) fun _ _ _ _ _ _ us hl=>by obtain ⟨_,_,_,rfl⟩:=nv hl;rfl
 have E_weight_of:=ent X G e_weight_of (ps:=["layout","tree"]) fun _ _ _ _ _ _ us hl=>by obtain ⟨_,_,rfl⟩:=d6 hl;rfl
 have E__law_whole:=ent X G e__law_whole (ps:=["_law_found"]) fun _ _ _ _ _ _ us hl=>by obtain ⟨_,rfl⟩:=qm hl;rfl
 have E__law_hang:=ent X G e__law_hang (ps:=["_law_pairs","_law_some"]) fun _ _ _ _ _ _ us hl=>by obtain ⟨_,_,rfl⟩:=d6 hl;rfl
 have E__law_is_pair:=ent X G e__law_is_pair (ps:=["_law_layout_here","_law_thing"]) fun _ _ _ _ _ _ us hl=>by obtain ⟨_,_,rfl⟩:=d6 hl;rfl
 have E__law_is_tree:=ent X G e__law_is_tree (ps:=["_law_layout_here","_law_thing"]) fun _ _ _ _ _ _ us hl=>by obtain ⟨_,_,rfl⟩:=d6 hl;rfl
 have E_beside_in:=ent X G e_beside_in (ps:=["tree","head"]) fun _ _ _ _ _ _ us hl=>by obtain ⟨_,_,rfl⟩:=d6 hl;rfl
 have E_way_on:=ent X G e_way_on (ps:=["tree","way","goal"]) fun _ _ _ _ _ _ us hl=>by obtain ⟨_,_,_,rfl⟩:=nv hl;rfl
 have E_way_in:=ent X G e_way_in (ps:=["layout","tree","one","other"]) fun _ _ _ _ _ _ us hl=>by obtain ⟨_,_,_,_,rfl⟩:=N3 hl;rfl
 have E__law_way:=ent X G e__law_way (ps:=["_law_tree","_law_one","_law_other"]) fun _ _ _ _ _ _ us hl=>by obtain ⟨_,_,_,rfl⟩:=nv hl;rfl
 have E__law_said:=ent X G e__law_said (ps:=["_law_way_here","_law_layout_here","_law_tree","_law_one","_law_other"]) fun _ _ _ _ _ _ us hl=>by obtain ⟨_,_,_,_,_,rfl⟩:=MR hl;rfl
 have F__law_kind:=vF (st:=dh) l__law_kind c__law_kind k__law_kind
 have B__law_kind:=F__law_kind.binds (ps:=["_law_e"]) fun _ _ _ _ _ _ us hl=>by obtain ⟨_,rfl⟩:=qm hl;rfl
 have M__law_kind:=PySem.W.mg_of X G a__law_kind
 have x_NoHead:=PySem.W.mg_of X G u_NoHead
 have x_NoColumn:=PySem.W.mg_of X G u_NoColumn
 have x_NoTree:=PySem.W.mg_of X G u_NoTree
 have x_NoTables:=PySem.W.mg_of X G u_NoTables
 have x_NoNumber:=PySem.W.mg_of X G u_NoNumber
 have x_NoRow:=PySem.W.mg_of X G u_NoRow
 have x_NoText:=PySem.W.mg_of X G u_NoText
 have x_Bound:=PySem.W.mg_of X G u_Bound
 have x_TooMany:=PySem.W.mg_of X G u_TooMany
 have x_NoLayout:=PySem.W.mg_of X G u_NoLayout
 have x_NoOrder:=PySem.W.mg_of X G u_NoOrder
 have x_NoDeed:=PySem.W.mg_of X G u_NoDeed
 have x_JoinError:=PySem.W.mg_of X G u_JoinError
 have Z_NoHead:w_ K mg c_NoHead [c_NoHead,c_NoColumn,c_NoTree,c_NoTables,c_NoNumber,c_NoRow,c_NoText,c_Bound,c_TooMany,c_NoLayout,c_NoOrder,c_NoDeed] [true,false,false,false,false,false,false,false,false,false,false,false]:=⟨PySem.W.mg_none_of X G u_isi,PySem.W.mg_none_of X G u_ve, tve_NoHead,by simp only [List.map_cons,List.map_nil,x_NoHead,x_NoColumn,x_NoTree,x_NoTables,x_NoNumber,x_NoRow,x_NoText,x_Bound,x_TooMany,x_NoLayout,x_NoOrder,x_NoDeed],by simp only [List.map_cons,List.map_nil,t_NoHead_NoHead,t_NoHead_NoColumn,t_NoHead_NoTree,t_NoHead_NoTables,t_NoHead_NoNumber,t_NoHead_NoRow,t_NoHead_NoText,t_NoHead_Bound,t_NoHead_TooMany,t_NoHead_NoLayout,t_NoHead_NoOrder,t_NoHead_NoDeed]⟩
 have Z_NoTree:w_ K mg c_NoTree [c_NoHead,c_NoColumn,c_NoTree,c_NoTables,c_NoNumber,c_NoRow,c_NoText,c_Bound,c_TooMany,c_NoLayout,c_NoOrder,c_NoDeed] [false,false,true,false,false,false,false,false,false,false,false,false]:=⟨PySem.W.mg_none_of X G u_isi,PySem.W.mg_none_of X G u_ve, tve_NoTree,by simp only [List.map_cons,List.map_nil,x_NoHead,x_NoColumn,x_NoTree,x_NoTables,x_NoNumber,x_NoRow,x_NoText,x_Bound,x_TooMany,x_NoLayout,x_NoOrder,x_NoDeed],by simp only [List.map_cons,List.map_nil,t_NoTree_NoHead,t_NoTree_NoColumn,t_NoTree_NoTree,t_NoTree_NoTables,t_NoTree_NoNumber,t_NoTree_NoRow,t_NoTree_NoText,t_NoTree_Bound,t_NoTree_TooMany,t_NoTree_NoLayout,t_NoTree_NoOrder,t_NoTree_NoDeed]⟩
 have hne:c_NoTree ≠ c_NoHead:=fun z=>by
  have a:=t_NoHead_NoTree
  rw [z,t_NoHead_NoHead] at a
  cases a
 exact O6 X G hfa e_law (fun _ _ _ _ _ _ s v=>.of_eq rfl) dv (fun base=>by
  have G_q14:i4 l.prog w K mg base 1:=I0 (k:=0) E__law_cell m
  have G_q30:jD l.prog w K mg base 1:=Jf (k:=0) E__law_mix
  have G_q25:jE l.prog w K mg base 2:=Jg (k:=1) E__law_box m (G_q14.up (by decide)) (G_q30.up (by decide))
  have G_q18:cW l.prog w K mg base 1:=LG (k:=0) E__law_take m
  have G_q4:gx l.prog w K mg base 2:=Mh (k:=1) E__law_barred m (G_q18.up (by decide))
  have G_q11:gV l.prog w K mg base 2:=J5 (k:=1) E__law_named m (G_q18.up (by decide))
  have G_q22:gc l.prog w K mg base 2:=Kp (k:=1) E__law_head m (G_q18.up (by decide))
  have G_q9:gX l.prog w K mg base 3:=Nv (k:=2) E__law_grown m (G_q22.up (by decide)) (G_q18.up (by decide))
  have G_q5:gy l.prog w K mg base 4:=Md (k:=3) E__law_layout m (G_q4.up (by decide)) (G_q9.up (by decide)) (G_q22.up (by decide)) (G_q11.up (by decide)) (G_q18.up (by decide))
  have G_q27:jy l.prog w K mg base 2:=Jv (k:=1) E__law_odd m (G_q18.up (by decide))
  have G_q28:jG l.prog w K mg base 1:=Lu (k:=0) E_is_whole m
  have G_q32:eT l.prog w K mg base 2:=Lx (k:=1) E_is_below (G_q28.up (by decide))
  have G_q12:ib l.prog w K mg base 3:=Je (k:=2) E_heads_of m (G_q32.up (by decide))
  have G_q13:g9 l.prog w K mg base 4:=LJ (k:=3) E_due_weight m (G_q12.up (by decide))
  have G_q37:n_ l.prog w K mg base 1:=IW (k:=0) E_linked m
  have G_q6:gB l.prog w K mg base 2:=Ng (k:=1) E_has_no_ring m (G_q37.up (by decide))
  have G_q21:iL l.prog w K mg base 1:=LR (k:=0) E_is_rising m
  have G_q19:iw l.prog w K mg base 3:=K8 (k:=2) E_are_below m (G_q32.up (by decide))
  have G_q2:fM l.prog w K mg base 4:=N7 (k:=3) E_is_two_below m (G_q19.up (by decide))
  have G_q34:kA l.prog w K mg base 5:=JS (k:=4) E_is_pair m (G_q2.up (by decide))
  have G_q33:je l.prog w K mg base 6:=JD (k:=5) E_is_tree m (G_q6.up (by decide)) (G_q34.up (by decide)) (G_q21.up (by decide))
  have G_q7:ff l.prog w K mg base 7:=Mj (k:=6) E_need_tree (G_q33.up (by decide))
  have G_q3:fk l.prog w K mg base 3:=MB (k:=2) E_need_head m (G_q32.up (by decide))
  have G_q26:ia l.prog w K mg base 4:=K0 (k:=3) E_common m (G_q3.up (by decide))
  have G_q8:gw l.prog w K mg base 8:=MJ (k:=7) E_weight_of m (G_q26.up (by decide)) (G_q7.up (by decide))
  have G_q10:fI l.prog w K mg base 1:=JT (k:=0) E__law_whole m
  have G_q17:iA l.prog w K mg base 1:=Ke (k:=0) E__law_hang m
  have G_q0:fW l.prog w K mg base 2:=Mr (k:=1) E__law_is_pair m (G_q10.up (by decide))
  have G_q1:f6 l.prog w K mg base 3:=MF (k:=2) E__law_is_tree m (G_q17.up (by decide)) (G_q0.up (by decide))
  have G_q20:iK l.prog w K mg base 1:=J2 (k:=0) E_beside_in
  have G_q36:nG l.prog w K mg base 8:=A3 (k:=1) E_way_on (G_q20.up (by decide)) 7
  have G_q29:jz l.prog w K mg base 9:=Kc (k:=8) E_way_in (G_q3.up (by decide)) (G_q7.up (by decide)) (G_q36.up (by decide))
  have G_q31:jF l.prog w K mg base 1:=J1 (k:=0) E__law_way m
  have G_q15:gk l.prog w K mg base 7 c_NoTree:=KD (k:=6) E_need_tree x_NoTree q_NoTree (G_q33.up (by decide))
  have G_q23:iY l.prog w K mg base 8 c_NoTree:=JF (k:=7) E_weight_of m (G_q26.up (by decide)) (G_q15.up (by decide))
  have G_q16:iJ l.prog w K mg base 3 c_NoHead:=IQ (k:=2) E_need_head m x_NoHead q_NoHead (G_q32.up (by decide))
  have G_q35:oi l.prog w K mg base 9 c_NoHead c_NoTree:=Lp (k:=8) E_way_in (G_q16.up (by decide)) (G_q15.up (by decide)) (G_q36.up (by decide))
  have W:P6 l.prog w K mg base 9 _ c_JoinError _ ["_law_e"] (JG c_NoHead c_NoTree):=⟨fun C x h=>by
    rcases tI h with ⟨rfl,rfl⟩ | ⟨rfl,rfl⟩
    .exact km (P:=l.prog) (w:=w) (base:=base) (k:=8) (j:=0) F__law_kind E_NoHead Z_NoHead rfl rfl (by decide) rfl
    .exact km (P:=l.prog) (w:=w) (base:=base) (k:=8) (j:=2) F__law_kind E_NoTree Z_NoTree rfl rfl (by decide) rfl,fun C x h=>by
    rcases tI h with ⟨rfl,rfl⟩ | ⟨rfl,rfl⟩
    .exact tex_NoHead
    .exact tex_NoTree⟩
  have G_q24:i7 l.prog w K mg base 10 c_NoHead c_NoTree (JG c_NoHead c_NoTree):=KY (k:=9) E__law_said W x_JoinError M__law_kind k__law_kind B__law_kind (G_q35.up (by decide)) (G_q23.up (by decide))
  exact Nu (k:=10) m (G_q25.up (by decide)) (G_q1.up (by decide)) (G_q5.up (by decide)) (G_q27.up (by decide)) (G_q24.up (by decide)) (G_q18.up (by decide)) (G_q31.up (by decide)) (G_q10.up (by decide)) (G_q13.up (by decide)) (G_q29.up (by decide)) (G_q8.up (by decide))) fun _ _ _ F=>EE F (zw c_NoHead c_NoTree (JG c_NoHead c_NoTree) (J8 _ _) (Ff hne))
end K23
open PySem PySem.W PyProof.Rows
set_option maxRecDepth 100000
set_option maxHeartbeats 0
namespace TopAll
open PySem PySem.W PySem.Calls PyProof.Rows
def run (st:SharedT→Thread→Option (SharedT×Thread)) (ok:Thread→Bool):Nat→SharedT→Thread→Option SharedT
 |0,_,_=>none
 |n+1,s,t=>match through t with
  |true=>some s
  |false=>match ok t with
   |false=>none
   |true=>match st s t with
    |some (s',t')=>run st ok n s' t'
    |none=>none
theorem run_spec {tb:String→Option Builtin} {p:Program} {w:World} {m:Nat} {an:Option Value}:∀ {n:Nat} {s s':SharedT} {t:Thread},
  run (stepT (denote tb) p w) (stepOk m an) n s t=some s' → topRun tb p w m an n s.abs t=some s'.abs
 |0,_,_,_,h=>by cases h
 |n+1,s,s',t,h=>by
  unfold run at h
  unfold topRun
  cases ht:through t with
  |true=>rw [ht] at h;cases h;rfl
  |false=>
   rw [ht] at h
   cases hk:stepOk m an t with
   |false=>rw [hk] at h;cases h
   |true=>
    rw [hk] at h
    cases hs:stepT (denote tb) p w s t with
    |none=>rw [hs] at h;cases h
    |some r=>obtain ⟨s2,t2⟩:=r;rw [hs] at h;rw [stepT_spec hs];exact run_spec h
noncomputable def boot (w:World) (os:OsState):SharedT:=⟨(boot_heap w.params).objs.toList.zipIdx.foldl (fun t x=>t.ins x.2 x.1) BT.nil,11,(boot_heap w.params).life,Array.mk [],boot_drawn,boot_toks,os⟩
theorem boot_abs (w:World) (os:OsState):(boot w os).abs=⟨boot_heap w.params,Array.mk [],boot_drawn,boot_toks,os⟩:=by kernel_rfl
theorem boot_size (w:World):((boot_heap w.params).isNs mainGlobals && (Array.mk []:Array GenState).size==0,(boot_heap w.params).objs.size,(boot_heap w.params).nsMap mainGlobals "__annotations__")=(true,11,some (.ref 6)):=by kernel_rfl
noncomputable abbrev go (p:Program) (w:World) (N:Nat) (os:OsState):Option SharedT:=run (Fast.tw10156331382660048174 (Fast.tw11892475500146522536 Fast.tw14364793385576792824) p w) (Fast.tw6613529449190102663 11 (some (.ref 6))) N (boot w os) (topStub p)
theorem left {p q:Program} {lo:List Str} {Xt:Shared→Bool} {α:Type} {Yf:Shared→α} {Ya:World→α} {N:Nat} {g0:Bool}
  (e:opening p=plainProg p.main.scope.names) (hN:Nat.ble 600 N=true) (f:∀ s,fenceModules? p s=some s)
  (u1:∀ w:World,(fun os=>(go p w N os).map fun S=>((staticsOk (importedModules p.main.body) (boot_heap w.params) S.abs.heap && namesBound p S.abs.heap && gensDone S.abs && laidKept (boot_heap w.params) S.abs.heap),
   (Fast.tw4187177175401517315 q lo (Fast.tw5923862056798008813 p.main.body) Xt g0 S.abs).1))=fun _=>some (true,(openGood q lo).1))
  (u2:∀ w:World,(fun os=>(go p w N os).map fun S=>(Fast.tw4187177175401517315 q lo (Fast.tw5923862056798008813 p.main.body) Xt g0 S.abs).2)=fun _=>some (openGood q lo).2)
  (u3:∀ w:World,(fun os=>(go p w N os).map fun S=>Yf S.abs)=fun _=>some (Ya w)):LeftO p q lo Xt Yf Ya N g0:=fun w=>by
 obtain ⟨⟨h,gs,d,k,os⟩,e1,e'⟩:=Option.map_eq_some_iff.mp (boot_open e hN f w)
 obtain ⟨rfl,rfl,rfl,rfl⟩:h=boot_heap w.params∧gs=Array.mk []∧d=boot_drawn∧k=boot_toks:=by simpa using e'
 obtain ⟨z1,z2,z3⟩:_∧_∧_:=by simpa only [Prod.mk.injEq] using boot_size w
 obtain ⟨S,r,l1⟩:=Option.map_eq_some_iff.mp (congrFun (u1 w) os)
 have l2:=congrFun (u2 w) os
 have l3:=congrFun (u3 w) os
 simp only [r,Option.map_some,Option.some.injEq] at l2 l3
 obtain ⟨l1,l4⟩:=Prod.mk.inj l1
 rw [←Fast.te4187177175401517315,←Fast.te5923862056798008813] at l2 l4
 unfold go at r
 rw [←Fast.te10156331382660048174,←Fast.te11892475500146522536,←Fast.te14364793385576792824,←Fast.te6613529449190102663] at r
 have r:=run_spec r
 rw [boot_abs] at r
 have t:topFrom treeTable p w N ⟨boot_heap w.params,Array.mk [],boot_drawn,boot_toks,os⟩=some S.abs:=by
  unfold topFrom
  dsimp only
  rw [z1,z2,z3,r]
  show (match staticsOk (importedModules p.main.body) (boot_heap w.params) S.abs.heap && namesBound p S.abs.heap && gensDone S.abs && laidKept (boot_heap w.params) S.abs.heap with |true=>_|false=>_)=_
  rw [l1]
 unfold openEnds
 rw [e1]
 show (topFrom treeTable p w N _).map _=_
 rw [t]
 exact congrArg some (Prod.ext (Prod.ext l4 l2) l3)
end TopAll
abbrev TopAll.q:PySem.Program:=PySem.W.view PySem.Challenge.rw_jointrees_k23_weights_and_ways.prog [1,2,3,4,5,6,7,8,9,10,11,12,13,15,16,17,18,19,20,22,23,24,26,27,28,29,30,31,32,33,34,36,37,38,39,40,41,42,43,44,45,46,47,48,49,50,51,52,53]
open PySem PySem.W PySem.Calls PyProof.Rows
theorem TopAll.law:PySem.Challenge.rw_jointrees_k23_weights_and_ways.wellSaid=true:=by
 rw [Fast.te9446332074065402090]
 kernel_rfl
theorem TopAll.u1 (w:World):(fun os=>(TopAll.go PySem.Challenge.rw_jointrees_k23_weights_and_ways.row.prog w 8000 os).map fun S=>((staticsOk (importedModules PySem.Challenge.rw_jointrees_k23_weights_and_ways.row.prog.main.body) (boot_heap w.params) S.abs.heap && namesBound PySem.Challenge.rw_jointrees_k23_weights_and_ways.row.prog S.abs.heap && gensDone S.abs && laidKept (boot_heap w.params) S.abs.heap),
   (Fast.tw4187177175401517315 TopAll.q [] (Fast.tw5923862056798008813 PySem.Challenge.rw_jointrees_k23_weights_and_ways.row.prog.main.body) (fun s=>xlAt TopAll.q [] s && recOk [] s) true S.abs).1))=fun _=>some (true,(openGood TopAll.q []).1):=by kernel_rfl
theorem TopAll.u2 (w:World):(fun os=>(TopAll.go PySem.Challenge.rw_jointrees_k23_weights_and_ways.row.prog w 8000 os).map fun S=>(Fast.tw4187177175401517315 TopAll.q [] (Fast.tw5923862056798008813 PySem.Challenge.rw_jointrees_k23_weights_and_ways.row.prog.main.body) (fun s=>xlAt TopAll.q [] s && recOk [] s) true S.abs).2)=fun _=>some (openGood TopAll.q []).2:=by kernel_rfl
set_option hygiene false in
local macro_rules |`(tactic|o_head $H)=>`(tactic|(refine holds_open (r:=PySem.Challenge.rw_jointrees_k23_weights_and_ways.row) (q:=TopAll.q) (loose:=[]) (Xt:=fun s=>xlAt TopAll.q [] s && recOk [] s) (XP:=XL TopAll.q []) (Yf:=Hook.obs $H) (Ya:=Hook.val $H) (YP:=Hook.says $H) (N:=8000) ?hl (Hook.of $H) (Hook.keeps $H) (fun s e=>xl_of s (Bool.and_eq_true_iff.mp e).1) XL.keeps (by rfl) (by rfl) (by rfl) (fun s e=>recFacts_of (Bool.and_eq_true_iff.mp e).2) (by rfl) (by assumption) (by decide +kernel) ⟨rfl,rfl,rfl,rfl,rfl,by decide +kernel⟩ ?hw ?hc;(case hl=>exact TopAll.left (by kernel_rfl) (by decide) (fun s=>by kernel_rfl) TopAll.u1 TopAll.u2 (fun w=>by kernel_rfl))))
set_option maxRecDepth 100000 in
set_option maxHeartbeats 0 in
theorem PySem.Challenge.cw_jointrees_k23_weights_and_ways_holds : PySem.Challenge.rw_jointrees_k23_weights_and_ways.Holds := by
 w_on;refine holds_law TopAll.law fun said=>?_;k_head;(case hw=>w_witness2)
 k_fill
 refine Jt.walkB (l:=PySem.Challenge.rw_jointrees_k23_weights_and_ways) (k:=11) rfl rfl ⟨rfl,by decide,by decide,rfl⟩ (fun w h Y=>PySem.W.kIn_of Y) ?L ?T ?F
 case L=>intro w;kernel_rfl
 case T=>intro w;kernel_rfl
 case F=>
  intro w mg fa h KX G hmg
  refine' K23.all_mk KX G hmg ?_ ?_ ?_ ?_ ?_ ?_ ?_ ?_ ?_ ?_ ?_ ?_ ?_ ?_ ?_ ⟨?_,?_,?_,?_,?_,?_,?_,?_⟩ ?_ ?_ ?_ ?_ ?_ ?_ ?_ ?_ ?_ ?_ ?_ ?_ ?_ ?_ ?_ ⟨?_,?_,?_,?_,?_,?_,?_,?_⟩ ?_ ?_ ?_ ?_ ?_ ?_ ?_ ?_ ?_ ?_ ?_ ?_ ?_ ?_ ?_ ?_ ?_ ?_ ?_ ?_ ?_ ?_ ?_ ?_ ?_ ?_ ?_ ?_ ?_ ?_ ?_ ?_ ?_ ?_ ?_ ?_ ?_ ?_ ?_ ?_ ?_ ?_ ?_ ?_ ?_ ?_ ?_ ?_ ?_ ?_ ?_ ?_ ?_ ?_ ?z
  all_goals try first | k_is | kernel_rfl
  case z=>refine ⟨?_,?_,?_,?_,?_,?_,?_,?_,?_,?_,?_,?_,?_,?_,?_,?_⟩ <;> k_is
  all_goals (refine' Jt.fh_mk ?a ?l ?c ?k;(case a=>k_is);(case l=>k_is);(case c=>k_is);(case k=>k_is))
