import PyProof.Rows.All
import Wide.All
import OpenK.AllK
import Wide.FinOn
import Lean
import PyProof.Rows.SetFrom
import PyProof.WalksMore
import PyProof.SetRoads
import PyProof.ListRange
import PyProof.Rows.SortWalk
import PyProof.CollectWalk
import PyProof.ZipIter
import PyProof.EnumStmt
import PyProof.EqAt
import PyProof.EqKinds
import PyProof.TupleCall
import PyProof.CompFree
import PyProof.Cells
import PyProof.ConsumeWalk
import PyProof.TupleOfSeq
import PyProof.NeKinds
import PyProof.IsiPairs
import PyProof.IsiHeapPairs
import PyProof.IsInstanceT
import PyProof.IsiTupleOf
import KE.KSortTup
import KE.KTryMore
import PyProof.ExcBaseAll.ValueError
import KE.RegMulBits
import Wide.ObjOpen
import Wide.RegSB
import PyProof.ExcAttrAll.ValueError
import PyProof.ExcArgsOwn
import PyProof.SumWalk
import PyProof.ReprRoads
import PyProof.Rows.DictMade
import PyProof.Rows.DictMethods
import KE.KRevIter
import PyProof.ListMulRoad
import PyProof.FactsAll.tuple_2
import PyProof.DictRoadsH
import PyProof.DictCompW
import PyProof.AttrMissHeap
import KE.KDictOf
import PyProof.DictIter
import PyProof.DictWalks
import PyProof.TupleKey
import PyProof.IsRules
import KE.KDictList
import KE.KSortKey
import KE.KLam
import PySem.Challenge.RW_jointrees_k02_pieces_named_beside_withou
set_option Elab.async false
set_option linter.all false
set_option maxRecDepth 100000
set_option maxHeartbeats 4000000
namespace Jt
open PySem
noncomputable def Up(xs:Array Nat):Prop:=xs.toList.Pairwise (. < .)
theorem Up.lt(u:Up xs){i k a b:Nat}(h:i<k)(o:xs[i]?=some a)(C:xs[k]?=some b):a<b:=by rw[<- Array.getElem?_toList]at o C;obtain⟨I,J⟩:=List.getElem?_eq_some_iff.mp o;obtain⟨U,e2⟩:=List.getElem?_eq_some_iff.mp C;rw[<- J,<- e2];exact List.pairwise_iff_getElem.mp u i k I U h
theorem zG(u:Up xs):∀(fuel lo o:Nat),o<=xs.size->lo<=o->o-lo<=fuel->
  (∀i v,i<lo->xs[i]?=some v->v<j)->(∀i v,o<=i->xs[i]?=some v->j<=v)->
  SetTable.below.go xs j fuel lo o<=xs.size/\(∀i v,i<SetTable.below.go xs j fuel lo o->xs[i]?=some v->v<j)/\∀i v,SetTable.below.go xs j fuel lo o<=i->xs[i]?=some v->j<=v:=by intro fuel;induction fuel with
 |zero=>
  intro lo o I h2 h3 J U;have:lo=o:=by omega
  subst this;exact⟨I,J,U⟩
 |succ fuel ih=>
  intro lo o I h2 h3 J U;unfold SetTable.below.go;by_cases hl:lo<o
  .rw[if_pos hl];have hm:(lo+o)/2<xs.size:=by omega
   have eg:xs.getD ((lo+o)/2) j=xs[(lo+o)/2]:=by simp[Array.getD,hm]
   have em:xs[(lo+o)/2]?=some xs[(lo+o)/2]:=by simp[hm]
   by_cases hc:xs.getD ((lo+o)/2) j<j
   .rw[if_pos hc];refine ih _ _ I (by omega) (by omega) (λ i v C e=>?_) U;rcases Nat.lt_or_eq_of_le (Nat.le_of_lt_succ C)with q|q
    .have:=u.lt q e em;omega
    .subst q;rw[em]at e;cases e;omega
   .rw[if_neg hc];refine ih _ _ (by omega) (by omega) (by omega) J λ i v C e=>?_;rcases Nat.lt_or_eq_of_le C with q|q
    .have:=u.lt q em e;omega
    .subst q;rw[em]at e;cases e;omega
  .rw[if_neg hl];have:lo=o:=by omega
   subst this;exact⟨I,J,U⟩
theorem iC(u:Up xs)(j:Nat):SetTable.below xs j<=xs.size/\(∀i v,i<SetTable.below xs j->xs[i]?=some v->v<j)/\∀i v,SetTable.below xs j<=i->xs[i]?=some v->j<=v:=by refine zG u _ _ _ (Nat.le_refl _) (Nat.zero_le _) (by omega) (λ i v h=>absurd h (Nat.not_lt_zero _)) λ i v h e=>?_;grind
theorem vg(u:Up xs){j:Nat}(h:xs[SetTable.below xs j]?≠some j):j∉xs.toList:= λ hm=>by
 obtain⟨i,C,e⟩:=List.getElem_of_mem hm;have o:xs[i]?=some j:=by rw[<- Array.getElem?_toList,List.getElem?_eq_getElem C,e]
 obtain⟨_,b1,J⟩:=iC u j;rcases Nat.lt_trichotomy i (SetTable.below xs j)with q|q|q
 .exact absurd (b1 i j q o) (Nat.lt_irrefl _)
 .rw[<- q]at h;exact h o
 .have U:SetTable.below xs j<xs.size:=Nat.lt_of_lt_of_le q (by simpa using Nat.le_of_lt C);have I:xs[SetTable.below xs j]?=some xs[SetTable.below xs j]:=by simp
  have:=u.lt q I o;grind
theorem va(u:Up xs){j:Nat}(h:j∉xs.toList):Up (SetTable.insertAt xs (SetTable.below xs j) j):=by
 unfold Up;rw[SetTable.toList_insertAt];obtain⟨b0,b1,U⟩:=iC u j;have J:xs.toList.Pairwise (. < .):=u;have hd:∀y∈xs.toList.drop (SetTable.below xs j),j<y:= λ y C=>by
  obtain⟨i,I,e⟩:=List.getElem_of_mem C;rw[List.getElem_drop]at e;have hm:y∈xs.toList:=List.mem_of_mem_drop C;have:=U (SetTable.below xs j+i) y (by omega) (by rw[<- Array.getElem?_toList,List.getElem?_eq_some_iff];exact⟨by simp at I;simp;omega,e⟩);rcases Nat.lt_or_eq_of_le this with q|q
  .exact q
  .subst q;exact absurd hm h
 have ht:∀y∈xs.toList.take (SetTable.below xs j),y<j:= λ y C=>by
  obtain⟨i,I,e⟩:=List.getElem_of_mem C;rw[List.getElem_take]at e;have o:i<SetTable.below xs j/\i<xs.toList.length:=by rw[List.length_take]at I;omega
  exact b1 i y o.1 (by rw[<- Array.getElem?_toList,List.getElem?_eq_some_iff];exact⟨o.2,e⟩)
 rw[List.pairwise_append];refine⟨J.sublist (List.take_sublist _ _),?_,λ a ha b hb=>?_⟩;. rw[List.pairwise_cons];exact⟨hd,J.sublist (List.drop_sublist _ _)⟩
 grind
noncomputable def Tb(t:SetTable):Prop:=t.plain=true->Up t.place
theorem vZ{t:SetTable}{j:Nat}(u:Up t.place)(h:t.slot j= .empty\/t.slot j= .dummy):j∉t.place.toList:=by refine vg u λ e=>?_;unfold SetTable.slot at h;grind
theorem gR(t:SetTable)(p:SetTable.Probe):(t.advance p).dummy=p.dummy:=by unfold SetTable.advance;grind
theorem rT:∀(fuel:Nat)(p:SetTable.Probe)(j:Nat)(d:Option Nat),(∀x,p.dummy=some x->t.slot x= .dummy)->
  SetTable.probe.go t f h fuel p=some (.empty j d)->t.slot (d.getD j)= .empty\/t.slot (d.getD j)= .dummy:=by intro fuel;induction fuel with
 |zero=>intro p j d _ e;cases e
 |succ fuel o=>intro p j d C e;unfold SetTable.probe.go at e;cases q:t.slot p.j with
  |empty=>rw[q]at e;injection e with e;injection e with I J;subst I;cases d with
   |none=>exact .inl q
   |some x=>exact .inr (C x J)
  |dummy=>rw[q]at e;refine o _ j d (λ x hx=>?_) e;rw[gR]at hx;cases hx;exact q
  |live i=>
   rw[q]at e;dsimp only at e;split at e;. cases e
   .exact o _ j d (λ x hx=>C x (by rw[gR]at hx;exact hx)) e
theorem lK{t:SetTable}{h:Int}{j:Nat}{b:Bool}(u:Up t.place)(e:t.freeSlot h=some (j,b)):j∉t.place.toList:=by
 unfold SetTable.freeSlot at e;split at e;. rename_i o d q;cases e;exact vZ u (rT _ _ _ _ (λ x hx=>by cases hx) q)
 grind
theorem vF(h:Tb t)(es:Array (Int×Value))(k:Int)(x:Value):Tb (layNew t es k x).2.1/\(layNew t es k x).2.1.led=t.led:=by
 unfold layNew;split
 .rename_i j b e;dsimp only;unfold SetTable.orStandIn;split;. exact⟨λ o=>va (h o) (lK (h o) e),rfl⟩
  .exact⟨λ o=>absurd (show false=true from o) Bool.false_ne_true,rfl⟩
 .exact⟨λ o=>absurd (show false=true from o) Bool.false_ne_true,rfl⟩
theorem CW {mask finger moves:Nat} {led plain:Bool} {hs:Array Int} {t:SetTable} {o:Array Nat} (e:SetTable.laid mask finger moves led plain hs=some (t,o)):Up t.place∧t.led=led:= by
 unfold SetTable.laid at e
 cases q:SetTable.layClean mask hs with
 | none=>rw [q] at e;cases e
 | some owner=>
  rw [q] at e
  injection e with e
  injection e with e1 e2
  subst e1
  refine ⟨?_,rfl⟩
  show (List.map _ _).Pairwise _
  rw [List.pairwise_map]
  rw [List.pairwise_filterMap]
  refine List.Pairwise.imp (fun {a b} hab x hx y hy=>?_) List.pairwise_lt_range
  cases q1:owner.getD a none with
  | none=>rw [q1] at hx;cases hx
  | some _=>
   cases q2:owner.getD b none with
   | none=>rw [q2] at hy;cases hy
   | some _=>rw [q1] at hx;rw [q2] at hy;cases hx;cases hy;exact hab
theorem pw(t:SetTable)(es:Array (Int×Value))(n:Nat):Tb (relayAll t es n).2.1/\(relayAll t es n).2.1.led=t.led:=by
 unfold relayAll;split
 .rename_i t' o e;dsimp only;split;. obtain⟨I,J⟩:=CW e;exact⟨λ _=>I,J⟩
  .exact⟨λ C=>absurd (show false=true from C) Bool.false_ne_true,rfl⟩
 .exact⟨λ C=>absurd (show false=true from C) Bool.false_ne_true,rfl⟩
noncomputable def eo(p:Int×Tok):Int×Value:=(hashInt p.1,.int p.1 p.2)
noncomputable def ed(e:Int×Value):Int×Tok:=match e.2 with
 | .int i t=>(i,t)
 |_=>(0,0)
theorem Iw(p:Int×Tok):ed (eo p)=p:=rfl
theorem mV{es:Array (Int×Value)}{l:List (Int×Tok)}(p:es.toList.Perm (l.map eo)):∃o:List (Int×Tok),es.toList=o.map eo/\o.Perm l:=by
 refine⟨es.toList.map ed,?_,?_⟩
 .have:es.toList.map (eo∘ed)=es.toList.map id:=List.map_congr_left λ x hx=>by obtain⟨q,_,rfl⟩:=List.mem_map.mp (p.mem_iff.mp hx);rfl
  simp_all
 .have:=p.map ed;rw[List.map_map]at this;have e:l.map (ed∘eo)=l:=by have:(ed∘eo)=id:=funext Iw;rw[this,List.map_id]
  rwa [e]at this
structure bW (w:World) (h:Heap) (a:Addr) (l:List (Int × Tok)) (ep:Nat) (t:SetTable):Prop where
 obj:∃o,h.get? a=some o∧o.ExactSet∧o.data=.set (l.map eo).toArray ep t
 few:l.length < scanBound
 fits:t.fits l.length=true
 led:t.led = !w.params.followText "set-order"
 tb:Tb t
section
variable {prog:Program} {w:World} {A:Around} {E:Value->Shared->Prop} {s:Shared} {a:Addr} {l:List (Int × Tok)} {ep:Nat} {t:SetTable}
theorem yd(l:List (Int×Tok)):ElemsOf (intKind prog w) (l.map eo):= λ e he=>by obtain⟨p,_,rfl⟩:=List.mem_map.mp he;exact⟨⟨p.1,by simp[eo,intKind,Value.isInt],rfl⟩,rfl⟩
theorem Bk(k:Int)(l:List (Int×Tok)):((l.map eo).findIdx? λ e=>(intKind prog w).is k e.2).isSome=decide (k∈l.map (·.1)):=by
 rw[Bool.eq_iff_iff,decide_eq_true_eq,List.findIdx?_isSome,List.any_eq_true];constructor;. rintro⟨e,he,C⟩;obtain⟨p,o,rfl⟩:=List.mem_map.mp he;obtain⟨u,I⟩:=Value.isInt_shape (show Value.isInt k (.int p.1 p.2)=true from C);grind
 .intro h;obtain⟨p,o,rfl⟩:=List.mem_map.mp h;exact⟨eo p,List.mem_map_of_mem o,by simp[eo,intKind,Value.isInt]⟩
theorem bW.store{t':SetTable}(x:bW w h a l ep t)(he:es.toList=C.map eo)(I:C.length<scanBound)(hf:t'.fits C.length=true)(J:t'.led=t.led)(U:Tb t'):
  bW w (h.update a (Obj.putSet es t')) a C (ep+1) t':=by
 obtain⟨o,ho,hx,hd⟩:=x.obj;have e2:es=(C.map eo).toArray:=by grind
 refine⟨⟨{ o with data:= .set es (ep+1) t' },?_,hx,by rw[e2]⟩,I,hf,J.trans x.led,U⟩;have:=Heap.get?_update_self (Obj.putSet es t') ho (by rw[putSet_of es t' hd];rfl);rwa [putSet_of es t' hd]at this
theorem lg{Q:Unit->Shared->Prop}(x:bW w s.heap a l ep t)(hz:es.size<scanBound)(h:Q () { s with heap:=s.heap.update a (Obj.putSet es t') }):
  wpAny (model prog w) A (storeSet a es t') Q E s:=by obtain⟨o,C,_,hd⟩:=x.obj;exact wpAny_storeSet_of C hd h (fits_of_scanBound hz)
theorem fQ{es:Array (Int×Value)}{o:List (Int×Tok)}(h:es.toList=o.map eo):es.size=o.length:=by have:=congrArg List.length h;grind
theorem z3(x:bW w s.heap a l ep t)(ah:l.length+1<scanBound)
  (h:∀h' U I t' b,Heap.SameBut a s.heap h'->bW w h' a U I t'->(if k∈l.map (·.1)then U=l else U.Perm (l++[(k,tok)]))->Q b { s with heap:=h' }):
  wpAny (model prog w) A (setAddHashed a (.int k tok) (hashInt k)) Q E s:=by
 obtain⟨o,ho,hx,hd⟩:=x.obj;have hsz:(l.map eo).toArray.size=l.length:=by simp
 have ae:ElemsOf (intKind prog w) (l.map eo).toArray.toList:=by simpa using yd l
 have af:t.fits (l.map eo).toArray.size=true:=by rw[hsz];exact x.fits
 unfold setAddHashed setAddHashedIn;refine wpAny_holding ?_;refine wpAny_bind (wpAny_setState_of ho hd af ?_);show wpAny _ _ (if byScan (.int k tok) (l.map eo).toArray=true then _ else _) _ _ _;rw[if_pos (byScan_of (knd:=intKind prog w) rfl (by rw[hsz];exact x.few) ae)];refine wpAny_bind ?_;unfold setAddByScan;refine wpAny_bind (wpAny_rule ?_);refine wpAny_bind (wpAny_setScan_of (knd:=intKind prog w) (k:=k) (intKind_is _ _ _ _) ho hd af ae ?_);have ab:=Bk (prog:=prog) (w:=w) k l;rw[show(l.map eo).toArray.toList=l.map eo by simp];cases hr:(l.map eo).findIdx? (λ e=>(intKind prog w).is k e.2)with
 |some j=>rw[hr]at ab;have hm:k∈l.map (·.1):=of_decide_eq_true ab.symm;dsimp only;refine wpAny_pure (wpAny_pure ?_);have:=h s.heap l ep t false (Heap.SameBut.refl a s.heap) x (by rw[if_pos hm]);exact this
 |none=>
  rw[hr]at ab;have hm:k∉l.map (·.1):=of_decide_eq_false ab.symm;have p1:=layNew_perm t (l.map eo).toArray (hashInt k) (.int k tok);have f1:=layNew_fits t (l.map eo).toArray (hashInt k) (.int k tok);obtain⟨b1,b2⟩:=vF x.tb (l.map eo).toArray (hashInt k) (.int k tok);generalize hL:layNew t (l.map eo).toArray (hashInt k) (.int k tok)=L at p1 f1 b1 b2|-;obtain⟨C,t1,dm,gv⟩:=L;dsimp only at p1 f1 b1 b2|-;rw[Array.toList_push,show(l.map eo).toArray.toList++[(hashInt k,Value.int k tok)]=(l++[(k,tok)]).map eo by simp[eo]]at p1;obtain⟨l1,e1,q1⟩:=mV p1;have n1:l1.length=l.length+1:=by rw[q1.length_eq];simp
  have z1:=fQ e1;have fin:∀h' U I t',Heap.SameBut a s.heap h'->bW w h' a U I t'->U.Perm l1->Q true { s with heap:=h' }:= λ h' U I t' sb x' p'=>
   h h' U I t' true sb x' (by rw[if_neg hm];exact p'.trans q1);have gw:∀(b:Bool){J:Shared}{Q':Unit->Shared->Prop},Q' () J->wpAny (model prog w) A (match b with|true=>rule "set.scan.the-table-gave-way"|false=>pure ()) Q' E J:= λ b _ _ hq=>by
   cases b;. exact wpAny_pure hq
   .exact wpAny_rule hq
  refine wpAny_bind (gw gv ?_);have x1:bW w (s.heap.update a (Obj.putSet C t1)) a l1 (ep+1) t1:=x.store e1 (by omega) (by rw[<- z1];exact f1) b2 b1;have ag:=Heap.SameBut.update s.heap a (Obj.putSet C t1);have tl:∀(g:Bool->Sem Unit)(R:Option Bool->Shared->Prop),(∀(b:Bool){J:Shared}{Q':Unit->Shared->Prop},Q' () J->wpAny (model prog w) A (g b) Q' E J)->
    (∀h' U I t',Heap.SameBut a s.heap h'->bW w h' a U I t'->U.Perm l1->R (some true) { s with heap:=h' })->
    wpAny (model prog w) A (storeSet a C t1 >>=λ _=>if(!dm&&t1.tooFull)=true then(g (relayAll t1 C (SetTable.grown C.size)).2.2 >>=λ _=>
     storeSet a (relayAll t1 C (SetTable.grown C.size)).1 (relayAll t1 C (SetTable.grown C.size)).2.1 >>=λ _=>pure (some true))else pure (some true)) R E s:= λ g R hg fin=>by
   refine wpAny_bind (lg x (by omega) ?_);by_cases aa:(!dm&&t1.tooFull)=true;. rw[if_pos aa];have p2:=relayAll_perm t1 C (SetTable.grown C.size);have f2:=relayAll_fits t1 C (SetTable.grown C.size);obtain⟨c1,c2⟩:=pw t1 C (SetTable.grown C.size);generalize hR:relayAll t1 C (SetTable.grown C.size)=R at p2 f2 c1 c2|-;obtain⟨aj,t2,ai⟩:=R;rw[e1]at p2;obtain⟨l2,e2,q2⟩:=mV p2;have n2:l2.length=l1.length:=q2.length_eq;have z2:=fQ e2;refine wpAny_bind (hg ai ?_);refine wpAny_bind (lg (s:={ s with heap:=s.heap.update a (Obj.putSet C t1) }) x1 (by omega) (wpAny_pure ?_));exact fin _ l2 _ t2 (ag.trans (Heap.SameBut.update _ a _)) (x1.store e2 (by omega) (by rw[<- z2];exact f2) c2 c1) q2
   .rw[if_neg aa];exact wpAny_pure (fin _ l1 _ t1 ag x1 (List.Perm.refl _))
  split;. exact tl _ _ gw λ h' U I t' c1 c2 c3=>wpAny_pure (fin h' U I t' c1 c2 c3)
  .exact tl _ _ gw λ h' U I t' c1 c2 c3=>wpAny_pure (fin h' U I t' c1 c2 c3)
end
section
variable {prog:Program} {w:World} {A:Around} {E:Value->Shared->Prop} {s:Shared} {R:Result->Shared->Prop} {I:Addr} {fp wr:List Addr} {n:Nat} {P:Nat->Value->Prop} {St:Nat->Heap->Prop}
theorem bW.at (x:bW w h a l ep t) (k:∀o,h.get? a=some o->h'.get? a=some o):bW w h' a l ep t:= by
 obtain ⟨o,ho,hr⟩:=x.obj
 exact ⟨⟨o,k o ho,hr⟩,x.few,x.fits,x.led,x.tb⟩
theorem mn (W:Walks prog w A.in1 I fp wr n P St) (S:Addr) (hSf:S ∉ fp) (val:Nat->Int) (hval:∀i v,P i v->∃t,v=.int (val i) t) (hb:n + 1 < scanBound) :
  ∀(k i:Nat) (h:Heap) (tk:Nat) (l:List (Int × Tok)) (ep:Nat) (t:SetTable),n - i=k->i ≤ n->St i h->bW w h S l ep t->l.length ≤ i->(l.map (·.1)).Nodup->(∀z,z ∈ l.map (·.1) ↔ ∃j,j < i∧val j=z) ->
   (∀h' tk' l' ep' t',(∀b o,b ∉ S :: wr->h.get? b=some o->h'.get? b=some o)->bW w h' S l' ep' t' -> (l'.map (·.1)).Nodup->(∀z,z ∈ l'.map (·.1) ↔ ∃j,j < n∧val j=z)->R (.ok (.ret .none)) { s with heap:=h',toks:=tk' }) ->
   codeAny (model prog w) A (.builtin "set.update.loop" ⟨[.ref S,.ref I],[]⟩) R { s with heap:=h,toks:=tk }:= by
 have hSw:S ∉ wr:=fun z=>hSf (W.sub _ z)
 intro k
 induction k with
 | zero=>
  intro i h tk l ep t hk hi st x hl nd mem fin
  have ei:i=n:=by omega
  subst ei
  refine codeAny_builtin PyProof.Rows.F.entry_set_update_loop ?_
  rw [Around.under_plainId PyProof.Rows.F.plain_set_update_loop _]
  show wpAny (model prog w) A.in1 (pyNext (.ref I) >>= _) _ _ _
  refine wpAny_bind (W.done { s with heap:=h,toks:=tk } _ _ st fun h' tk' kp=>?_)
  exact wpAny_pure (fin h' tk' l ep t (fun b o hb' e=>kp b o (fun z=>hb' (List.mem_cons_of_mem _ z)) e) (x.at fun o e=>kp S o hSw e) nd mem)
 | succ k ih=>
  intro i h tk l ep t hk hi st x hl nd mem fin
  have hlt:i < n:=by omega
  refine codeAny_builtin PyProof.Rows.F.entry_set_update_loop ?_
  rw [Around.under_plainId PyProof.Rows.F.plain_set_update_loop _]
  show wpAny (model prog w) A.in1 (pyNext (.ref I) >>= _) _ _ _
  refine wpAny_bind (W.item i { s with heap:=h,toks:=tk } _ _ hlt st fun v h1 tk1 hP st1 kp=>?_)
  obtain ⟨u,rfl⟩:=hval i v hP
  have x1:bW w h1 S l ep t:=x.at fun o e=>kp S o hSw e
  show wpAny (model prog w) A.in1 (holding [Value.int (val i) u] (setAdd S (.int (val i) u)) >>= _) _ _ _
  refine wpAny_bind (wpAny_holding ?_)
  unfold setAdd
  refine wpAny_holding ?_
  refine wpAny_bind ((intKind prog w).pyHash (k:=val i) (intKind_is _ _ _ _) ?_)
  refine z3 (s:={ s with heap:=h1,toks:=tk1 + 1 }) x1 (by omega) fun h2 l2 ep2 t2 b sb x2 hif=>?_
  have hm2:(∀z,z ∈ l2.map (·.1) ↔ ∃j,j < i + 1∧val j=z)∧(l2.map (·.1)).Nodup∧l2.length ≤ i + 1:= by
   by_cases hm:val i ∈ l.map (·.1)
   .rw [if_pos hm] at hif
    subst hif
    refine ⟨fun z=>(mem z).trans ⟨fun ⟨j,h1,h2⟩=>⟨j,by omega,h2⟩,fun ⟨j,h1,h2⟩=>?_⟩,nd,by omega⟩
    by_cases hj:j < i
    .exact ⟨j,hj,h2⟩
    .have:j=i:=by omega
     subst this
     exact (mem z).mp (h2 ▸ hm)
   .rw [if_neg hm] at hif
    have pm:(l2.map (·.1)).Perm (l.map (·.1) ++ [val i]):=by simpa using hif.map (·.1)
    refine ⟨fun z=>?_,?_,?_⟩
    .rw [pm.mem_iff,List.mem_append,mem z,List.mem_singleton]
     constructor
     .rintro (⟨j,h1,h2⟩ | e)
      .exact ⟨j,by omega,h2⟩
      .exact ⟨i,by omega,e.symm⟩
     .rintro ⟨j,h1,h2⟩
      by_cases hj:j < i
      .exact .inl ⟨j,hj,h2⟩
      .have:j=i:=by omega
       subst this
       exact .inr h2.symm
    .rw [pm.nodup_iff,List.nodup_append]
     refine ⟨nd,by simp,fun p hp q hq e=>?_⟩
     rw [List.mem_singleton] at hq
     subst hq;subst e
     exact hm hp
    .rw [hif.length_eq];simp;omega
  refine wpAny_pure ⟨plainId_quiet PyProof.Rows.F.plain_set_update_loop _,ih (i + 1) h2 (tk1 + 1) l2 ep2 t2 (by omega) hlt (W.frame _ h1 h2 st1 fun b hb' o e=>?_) x2 hm2.2.2 hm2.2.1 hm2.1 fun h' tk' l' ep' t' c1 c2 c3 c4=>fin h' tk' l' ep' t' (fun b o hb' e=>?_) c2 c3 c4⟩
  .rw [sb.2 b fun z=>hSf (z ▸ hb')];exact e
  .refine c1 b o hb' ?_
   rw [sb.2 b fun z=>hb' (z ▸ List.mem_cons_self)]
   exact kp b o (fun z=>hb' (List.mem_cons_of_mem _ z)) e
theorem lr(e:h.get? S=some { cls:= .type "set",dict:=none,data:= .set #[] 0 (.fresh 0 0 (!w.params.followText "set-order")) }):bW w h S [] 0 (.fresh 0 0 (!w.params.followText "set-order")):=
 ⟨⟨_,e,⟨rfl,rfl,rfl⟩,rfl⟩,by decide,by rfl,rfl,λ _=>List.Pairwise.nil⟩
theorem jo (v:Value) {Q:Value->Shared->Prop} (h:Q (.ref s.heap.objs.size) { s with heap:=s.heap.push { cls:=.type "set",dict:=none,data:=.set #[] 0 (.fresh 0 0 (!w.params.followText "set-order")) } }) :
  codeAny (model prog w) A (.call (.builtin "set.__new__") ⟨[.type "set",v],[]⟩) (wants Q E) s:= by
 refine codeAny_of_tree ?_
 show wpAny (model prog w) A.in1 (do checkBuiltinCall "set.__new__" ⟨[.type "set",v],[]⟩;again (.builtin "set.__new__" ⟨[.type "set",v],[]⟩)) _ _ s
 refine wpAny_bind (wpAny_of_eq (F.newCall_set_1 v) (wpAny_pure ⟨plainId_quiet F.plain_set_new _,codeAny_builtin F.entry_set_new ?_⟩))
 rw [Around.under_plainId F.plain_set_new _]
 have hsub:=sub_set_self
 obtain ⟨hp,g,d,tk,os⟩:=s
 unfold Builtin.«set.__new__» Builtin.Frozenset.newClass
 dsimp only
 wp_walk
 refine wpAny_askSetting (wpAny_pure ?_)
 dsimp only
 simp only [newObj]
 exact wpAny_bind (wpAny_alloc (wpAny_pure (wpAny_pure h)))
set_option maxHeartbeats 8000000 in
theorem vC(hh:A.handled=none)(hl:s.heap.IsList l items)(hi:PyProof.Rows.IntsAre items.toList ns)(hb:items.size+1<scanBound)
  (h:∀(h':Heap)(tk:Nat)(ls:List (Int×Tok))(ep:Nat)(t:SetTable),bW w h' s.heap.objs.size ls ep t->(ls.map (·.1)).Nodup->(∀z,z∈ls.map (·.1)↔z∈ns)->
   (∀b o,s.heap.get? b=some o->h'.get? b=some o)->Q (.ref s.heap.objs.size) { s with heap:=h',toks:=tk }):
  wpAny (model prog w) A (call (.type "set") [.ref l]) Q E s:=by
 obtain⟨c,tl,aF⟩:=F.called_set.mro;have ax:=F.called_set.made;have aG:=F.called_set.sub;refine wpAny_call (codeAny_of_tree (?_:wpAny _ _ (callAny (.type "set") _) _ _ _));refine wpAny_pure ⟨Code.quiet_builtin _ (by decide+kernel),codeAny_builtin F.entry_type_call ?_⟩;rw[Around.under_plain (weight_type_call_type "set" [.ref l] []) rfl];have h1:=F.called_set.notType;have h2:=F.called_set.canCreate;have aK:=F.typeCall_set_1 (.ref l);repeat(any_goals(first|assumption|wp_step))
 refine codeAny_mono (jo (.ref l) (E:=E) (Q:= λ obj U=>obj= .ref s.heap.objs.size/\U={ s with heap:=s.heap.push { cls:= .type "set",dict:=none,data:= .set #[] 0 (.fresh 0 0 (!w.params.followText "set-order")) } }) ⟨rfl,rfl⟩) λ r U hr=>?_;cases r with
 |error e=> exact hr
 | ok fl =>cases fl with
  | ret obj=>
   obtain ⟨rfl,rfl⟩:=hr;have hS:(s.heap.push ({ cls:=.type "set",dict:=none,data:=.set #[] 0 (.fresh 0 0 (!w.params.followText "set-order")) }:Obj)).get? s.heap.objs.size=some ({ cls:=.type "set",dict:=none,data:=.set #[] 0 (.fresh 0 0 (!w.params.followText "set-order")) }:Obj):=Heap.get?_push_size _ rfl;have hT:Shared.TypeIs { s with heap:=s.heap.push ({ cls:=.type "set",dict:=none,data:=.set #[] 0 (.fresh 0 0 (!w.params.followText "set-order")) }:Obj) } (.ref s.heap.objs.size) "set":=⟨_,hS,rfl⟩;have aL:=F.called_set.init.lookup;have aM:=F.called_set.init.bind (.ref s.heap.objs.size);repeat (any_goals (first | assumption | wp_step))
   refine codeAny_mono (codeAny_call_builtin (R:=wants (λ r aa=>r=.none /\∃h' tk ls ep t,aa={ s with heap:=h',toks:=tk } /\ bW w h' s.heap.objs.size ls ep t /\ (ls.map (·.1)).Nodup /\ (∀z,z ∈ ls.map (·.1) ↔ z ∈ ns) /\
     (∀b o,s.heap.get? b=some o->h'.get? b=some o)) E) F.called_set.init.plain F.entry_set_init (check_set_init_1 hT ?_)) fun af aa C=>?_
   .obtain ⟨⟨aH,ay,az,aw⟩,ag,ah,nl,ai⟩:=hl;simp only at ah ai;subst ah;subst ai;have aj:=Heap.get?_push_of_some ({ cls:=.type "set",dict:=none,data:=.set #[] 0 (.fresh 0 0 (!w.params.followText "set-order")) }:Obj) ag;have aI:=F.sub_list_set;have aJ:=F.sub_list_frozenset;have aN:(Value.type "list" == Value.type "dict")=false:=by decide
    have ak:(s.heap.push ({ cls:=.type "set",dict:=none,data:=.set #[] 0 (.fresh 0 0 (!w.params.followText "set-order")) }:Obj)).IsList l items:=⟨_,aj,rfl,nl,rfl⟩;unfold Builtin.«set.__init__» noKeywords Builtin.Frozenset.updateFrom;generalize aA:pyIter=PI;wp_walk;subst aA;refine wpAny_pyIter_list (s:={ s with heap:=s.heap.push ({ cls:=.type "set",dict:=none,data:=.set #[] 0 (.fresh 0 0 (!w.params.followText "set-order")) }:Obj) }) ak ?_;refine wpAny_bind (wpAny_runValue ?_);have ao:l < s.heap.objs.size:=Heap.lt_size ag;have aB:A.in1.in1.in1.handled=none:=by simp [hh]
    have aq:l ≠ (s.heap.push ({ cls:=.type "set",dict:=none,data:=.set #[] 0 (.fresh 0 0 (!w.params.followText "set-order")) }:Obj)).objs.size:=by rw [Heap.size_push];exact Nat.ne_of_lt (Nat.lt_succ_of_lt ao)
    have aC:s.heap.objs.size ∉ [(s.heap.push ({ cls:=.type "set",dict:=none,data:=.set #[] 0 (.fresh 0 0 (!w.params.followText "set-order")) }:Obj)).objs.size,l]:= by
     rw [Heap.size_push];intro hm;rcases List.mem_cons.mp hm with e | hm
     .exact Nat.ne_of_lt (Nat.lt_succ_self _) e
     .exact Nat.ne_of_gt ao (List.mem_singleton.mp hm)
    have ar:∀(i:Nat) (v:Value),items[i]? = some v->∃t,v=.int ((fun i=>ns.getD i 0) i) t:=fun i v hv=>PyProof.Rows.IntsAre.int_at hi i v (by rw [Array.getElem?_toList];exact hv);have aO:ns.length=items.size:=by have:=hi.length;simpa using this.symm
    refine mn (Walks.list aB _ l aq items) s.heap.objs.size aC (fun i=>ns.getD i 0) ar hb (items.size - 0) 0 _ s.toks [] 0 (.fresh 0 0 (!w.params.followText "set-order")) (by omega) (Nat.zero_le _) ⟨⟨_,Heap.get?_push_size _ rfl,rfl,rfl⟩,ak.push _⟩
     (lr (Heap.get?_push_of_some _ hS)) (Nat.zero_le _) List.nodup_nil (fun z=>⟨fun hz=>(by cases hz),fun ⟨j,hj,_⟩=>absurd hj (Nat.not_lt_zero _)⟩) fun h' aD l' aE t' kp x' ab J=>?_;refine wpAny_pure (?_:wpAny _ _ (ret Value.none) _ _ _);refine wpAny_pure ⟨rfl,h',aD,l',aE,t',rfl,x',ab,fun z=>(J z).trans ⟨fun ⟨j,hj,e⟩=>?_,fun hz=>?_⟩,fun b o e=>?_⟩
    .have au:j < ns.length:=by omega
     have:ns.getD j 0=ns[j]:=by simp [au]
     exact e ▸ this ▸ List.getElem_mem au
    .obtain ⟨j,hj,e⟩:=List.getElem_of_mem hz
     exact ⟨j,by omega,by simp [hj,e]⟩
    .have av:=Heap.lt_size e
     refine kp b o (fun hm=>?_) (Heap.get?_push_of_some _ (Heap.get?_push_of_some _ e))
     rcases List.mem_cons.mp hm with e' | hm
     .exact Nat.ne_of_lt av e'
     .have:=List.mem_singleton.mp hm
      rw [Heap.size_push] at this
      exact Nat.ne_of_lt (Nat.lt_succ_of_lt av) this
   .cases af with
    | error e=>exact C
    | ok ae=>
     cases ae with
     | ret r=>
      obtain ⟨rfl,h',tk,ls,ep,t,rfl,x',ab,J,kp⟩:=C
      repeat (any_goals (first | assumption | wp_step))
      exact h _ _ ls ep t x' ab J kp
     | _=>exact C.elim
  | _=>exact hr.elim
theorem qz:isSubtype (.type "tuple") (.type "set")=pure false:=by rw[isSubtype_type];rfl
theorem oU:isSubtype (.type "tuple") (.type "frozenset")=pure false:=by rw[isSubtype_type];rfl
set_option maxHeartbeats 8000000 in
theorem vM(hh:A.handled=none)(hl:s.heap.IsTuple l items)(hi:PyProof.Rows.IntsAre items.toList ns)(hb:items.size+1<scanBound)
  (h:∀(h':Heap)(tk:Nat)(ls:List (Int×Tok))(ep:Nat)(t:SetTable),bW w h' s.heap.objs.size ls ep t->(ls.map (·.1)).Nodup->(∀z,z∈ls.map (·.1)↔z∈ns)->
   (∀b o,s.heap.get? b=some o->h'.get? b=some o)->Q (.ref s.heap.objs.size) { s with heap:=h',toks:=tk }):
  wpAny (model prog w) A (call (.type "set") [.ref l]) Q E s:=by
 obtain⟨c,tl,aF⟩:=F.called_set.mro;have ax:=F.called_set.made;have aG:=F.called_set.sub;refine wpAny_call (codeAny_of_tree (?_:wpAny _ _ (callAny (.type "set") _) _ _ _));refine wpAny_pure ⟨Code.quiet_builtin _ (by decide+kernel),codeAny_builtin F.entry_type_call ?_⟩;rw[Around.under_plain (weight_type_call_type "set" [.ref l] []) rfl];have h1:=F.called_set.notType;have h2:=F.called_set.canCreate;have aK:=F.typeCall_set_1 (.ref l);repeat(any_goals(first|assumption|wp_step))
 refine codeAny_mono (jo (.ref l) (E:=E) (Q:= λ obj U=>obj= .ref s.heap.objs.size/\U={ s with heap:=s.heap.push { cls:= .type "set",dict:=none,data:= .set #[] 0 (.fresh 0 0 (!w.params.followText "set-order")) } }) ⟨rfl,rfl⟩) λ r U hr=>?_;cases r with
 |error e=>exact hr
 |ok fl=>cases fl with
  |ret obj=>
   obtain⟨rfl,rfl⟩:=hr;have hS:(s.heap.push ({ cls:= .type "set",dict:=none,data:= .set #[] 0 (.fresh 0 0 (!w.params.followText "set-order")) }:Obj)).get? s.heap.objs.size=some ({ cls:= .type "set",dict:=none,data:= .set #[] 0 (.fresh 0 0 (!w.params.followText "set-order")) }:Obj):=Heap.get?_push_size _ rfl;have hT:Shared.TypeIs { s with heap:=s.heap.push ({ cls:= .type "set",dict:=none,data:=.set #[] 0 (.fresh 0 0 (!w.params.followText "set-order")) }:Obj) } (.ref s.heap.objs.size) "set":=⟨_,hS,rfl⟩;have aL:=F.called_set.init.lookup;have aM:=F.called_set.init.bind (.ref s.heap.objs.size);repeat (any_goals (first | assumption | wp_step))
   refine codeAny_mono (codeAny_call_builtin (R:=wants (λ r aa=>r=.none /\∃h' tk ls ep t,aa={ s with heap:=h',toks:=tk } /\ bW w h' s.heap.objs.size ls ep t /\ (ls.map (·.1)).Nodup∧(∀z,z ∈ ls.map (·.1) ↔ z ∈ ns) ∧
     (∀b o,s.heap.get? b=some o->h'.get? b=some o)) E) F.called_set.init.plain F.entry_set_init (check_set_init_1 hT ?_)) fun af aa C=>?_
   .obtain ⟨⟨aH,ay,az,aw⟩,ag,ah,nl,ai⟩:=hl;simp only at ah ai;subst ah;subst ai;have aj:=Heap.get?_push_of_some ({ cls:=.type "set",dict:=none,data:=.set #[] 0 (.fresh 0 0 (!w.params.followText "set-order")) }:Obj) ag;have aI:=qz;have aJ:=oU;have aN:(Value.type "tuple" == Value.type "dict")=false:=by decide
    have ak:(s.heap.push ({ cls:=.type "set",dict:=none,data:=.set #[] 0 (.fresh 0 0 (!w.params.followText "set-order")) }:Obj)).IsTuple l items:=⟨_,aj,rfl,nl,rfl⟩;unfold Builtin.«set.__init__» noKeywords Builtin.Frozenset.updateFrom;generalize aA:pyIter=PI;wp_walk;subst aA;refine wpAny_pyIter_tuple (s:={ s with heap:=s.heap.push ({ cls:=.type "set",dict:=none,data:=.set #[] 0 (.fresh 0 0 (!w.params.followText "set-order")) }:Obj) }) ak ?_;refine wpAny_bind (wpAny_runValue ?_);have ao:l < s.heap.objs.size:=Heap.lt_size ag;have aB:A.in1.in1.in1.handled=none:=by simp [hh]
    have aq:l ≠ (s.heap.push ({ cls:=.type "set",dict:=none,data:=.set #[] 0 (.fresh 0 0 (!w.params.followText "set-order")) }:Obj)).objs.size:=by rw [Heap.size_push];exact Nat.ne_of_lt (Nat.lt_succ_of_lt ao)
    have aC:s.heap.objs.size ∉ [(s.heap.push ({ cls:=.type "set",dict:=none,data:=.set #[] 0 (.fresh 0 0 (!w.params.followText "set-order")) }:Obj)).objs.size,l]:= by
     rw [Heap.size_push];intro hm;rcases List.mem_cons.mp hm with e | hm
     .exact Nat.ne_of_lt (Nat.lt_succ_self _) e
     .exact Nat.ne_of_gt ao (List.mem_singleton.mp hm)
    have ar:∀(i:Nat) (v:Value),items[i]? = some v->∃t,v=.int ((fun i=>ns.getD i 0) i) t:=fun i v hv=>PyProof.Rows.IntsAre.int_at hi i v (by rw [Array.getElem?_toList];exact hv);have aO:ns.length=items.size:=by have:=hi.length;simpa using this.symm
    refine mn (Walks.tuple aB _ l aq items) s.heap.objs.size aC (fun i=>ns.getD i 0) ar hb (items.size - 0) 0 _ s.toks [] 0 (.fresh 0 0 (!w.params.followText "set-order")) (by omega) (Nat.zero_le _) ⟨⟨_,Heap.get?_push_size _ rfl,rfl,rfl⟩,ak.push _⟩
     (lr (Heap.get?_push_of_some _ hS)) (Nat.zero_le _) List.nodup_nil (fun z=>⟨fun hz=>(by cases hz),fun ⟨j,hj,_⟩=>absurd hj (Nat.not_lt_zero _)⟩) fun h' aD l' aE t' kp x' ab J=>?_;refine wpAny_pure (?_:wpAny _ _ (ret Value.none) _ _ _);refine wpAny_pure ⟨rfl,h',aD,l',aE,t',rfl,x',ab,fun z=>(J z).trans ⟨fun ⟨j,hj,e⟩=>?_,fun hz=>?_⟩,fun b o e=>?_⟩
    .have au:j < ns.length:=by omega
     have:ns.getD j 0=ns[j]:=by simp [au]
     exact e ▸ this ▸ List.getElem_mem au
    .obtain ⟨j,hj,e⟩:=List.getElem_of_mem hz;exact ⟨j,by omega,by simp [hj,e]⟩
    .have av:=Heap.lt_size e;refine kp b o (fun hm=>?_) (Heap.get?_push_of_some _ (Heap.get?_push_of_some _ e));rcases List.mem_cons.mp hm with e' | hm
     .exact Nat.ne_of_lt av e'
     .have:=List.mem_singleton.mp hm;rw [Heap.size_push] at this;exact Nat.ne_of_lt (Nat.lt_succ_of_lt av) this
   .cases af with
    | error e=>exact C
    | ok ae =>cases ae with
     | ret r=>
      obtain ⟨rfl,h',tk,ls,ep,t,rfl,x',ab,J,kp⟩:=C;repeat (any_goals (first | assumption | wp_step))
      exact h _ _ ls ep t x' ab J kp
     | _=>exact C.elim
  | _=>exact hr.elim
end
theorem xQ:Manifest.owners.lookup (String.ofList ['r','o','t','a','r','e','t','i','_','t','e','s'].reverse)=some Manifest.sig_set_iterator:=by kernel_rfl
theorem eK:Slot "set_iterator" "__next__" "set_iterator.__next__":= .of (owner:="set_iterator") (n:="__next__") (by rfl) (by decide+kernel) (by decide+kernel) (by decide+kernel) (by first|exact .inl (by decide+kernel)|exact .inr (by decide+kernel)) (by kernel_rfl)
theorem rQ:entryFor table "set_iterator.__next__"=some Builtin.«set_iterator.__next__»:=entryFor_of_tree (by rfl)
theorem r9(v:Value):argsOk "set_iterator.__next__" ⟨[v],[]⟩:=by unfold argsOk;rw[signature?_of (id:="set_iterator.__next__") (n:=['_','_','t','x','e','n','_','_']) (o:=['r','o','t','a','r','e','t','i','_','t','e','s']) (by kernel_rfl) xQ];rfl
theorem kc:Slot "set_iterator" "__iter__" "set_iterator.__iter__":= .of (owner:="set_iterator") (n:="__iter__") (by rfl) (by decide+kernel) (by decide+kernel) (by decide+kernel) (by first|exact .inl (by decide+kernel)|exact .inr (by decide+kernel)) (by kernel_rfl)
theorem rO:entryFor table "set_iterator.__iter__"=some Builtin.«dict_keyiterator.__iter__»:=entryFor_alias (id':="dict_keyiterator.__iter__") (by kernel_rfl) (by first|rfl|decide+kernel|(unfold String.splitOn;simp+decide [String.splitOnAux])) (by decide+kernel) (by kernel_rfl)
theorem rb(v:Value):argsOk "set_iterator.__iter__" ⟨[v],[]⟩:=by unfold argsOk;rw[signature?_of (id:="set_iterator.__iter__") (n:=['_','_','r','e','t','i','_','_']) (o:=['r','o','t','a','r','e','t','i','_','t','e','s']) (by kernel_rfl) xQ];rfl
theorem qP:entryFor table "set.__iter__"=some Builtin.«frozenset.__iter__»:=entryFor_alias (id':="frozenset.__iter__") (by kernel_rfl) (by first|rfl|decide+kernel|(unfold String.splitOn;simp+decide [String.splitOnAux])) (by decide+kernel) (by kernel_rfl)
noncomputable abbrev qS(h:Heap)(I S:Addr)(f0:Value)(i n o:Nat):Prop:=h.get? I=some { cls:= .type "set_iterator",dict:=none,data:= .fields #[f0,.int i 0,.ref S,.int n 0,.int o 0],slots:=#[] }
section
variable {prog:Program} {w:World} {A:Around} {E:Value->Shared->Prop} {s:Shared} {I S:Addr} {l:List (Int × Tok)} {ep:Nat} {t:SetTable} {i:Nat} {f0:Value}
theorem bW.state(x:bW w s.heap S l ep t)(h:Q ((l.map eo).toArray,ep,t) s):wpAny (model prog w) A (setState S) Q E s:=by obtain⟨o,C,_,hd⟩:=x.obj;exact wpAny_setState_of C hd (by simpa using x.fits) h
theorem bW.ty(x:bW w s.heap S l ep t):s.TypeIs (.ref S) "set":=by obtain⟨o,C,hx,_⟩:=x.obj;exact⟨o,C,hx.1⟩
theorem jZ(C:A.handled=none)(J:∀h' e,(∀b o,s.heap.get? b=some o->h'.get? b=some o)->(∃o,h'.get? e=some o/\o.cls= .type "StopIteration")->E (.ref e) { s with heap:=h' }):
  wpAny (model prog w) A (newExc (.type "StopIteration") [] >>=λ x=>(raiseNew x:Sem α)) Q E s:=by refine wpAny_bind ?_;refine wpAny_bind (m:=firstArgMember _ _) (wpAny_of_eq (a:=Value.none) (by first|rfl|(simp)) ?_);refine wpAny_newObj_type ?_ (by size_fits);refine wpAny_bind (wpAny_handled ?_);rw[C];refine wpAny_bind (wpAny_pure (wpAny_throw ?_));exact J _ _ (λ b o e=>Heap.get?_push_of_some _ (Heap.get?_push_of_some _ e)) ⟨_,Heap.get?_push_size _ rfl,rfl⟩
theorem jC{Q:Option Value->Shared->Prop}(C:qS s.heap I S f0 i l.length ep)(x:bW w s.heap S l ep t)
  (h:wpAny (model prog w) A.in1 (if let .int slot _:=f0 then(do
    match<- setNext S slot.toNat i ep with
    |some (x,next)=>
     setField (.ref I) 0 (rawInt next)
     setField (.ref I) 1 (rawInt (i+1))
     ret x
    |none=>setField (.ref I) 2 .none;raiseNew (<- newExc (.type "StopIteration") []))
   else(do
    let some places<- seqItems? f0|unsupported "internal:set_iterator"
    match places[i]? with
    |some (.int place _)=>
     let x<- setNextDrawn S place.toNat ep
     setField (.ref I) 1 (rawInt (i+1))
     ret x
    |some _=>unsupported "internal:set_iterator"
    |none=>setField (.ref I) 0 (rawInt 0);setField (.ref I) 2 .none;raiseNew (<- newExc (.type "StopIteration") [])))
   (λ fin s'=>∃v,fin= .done (.ret v)/\Q (some v) s') (λ e s'=>(∃a o,e= .ref a/\s'.heap.get? a=some o/\o.cls= .type "StopIteration")/\Q none s') s):
  wpAny (model prog w) A (pyNext (.ref I)) Q E s:=by
 have J:s.TypeIs (.ref I) "set_iterator":=⟨_,C,rfl⟩;refine wpAny_bind (wpAny_attempt (wpAny_callSpecial?_slot (name:=Str.ofString "__next__") J eK (wpAny_call_entry eK J rQ ?_ (r9 _))));refine wpAny_bind (m:=slotArgs "__next__" 0 ⟨[.ref I],[]⟩) (wpAny_pure ?_);refine wpAny_bind (wpAny_fieldsOf C rfl ?_);refine wpAny_bind ?_;refine wpAny_bind (x.state (wpAny_pure ?_));rw[if_neg (by simp)];refine wpAny_mono h (λ fin s' h'=>?_) λ e s' h'=>?_;. obtain⟨v,rfl,q⟩:=h';exact⟨v,rfl,wpAny_pure q⟩
 .obtain⟨⟨a,o,rfl,U,hc⟩,q⟩:=h';exact wpAny_bind (wpAny_isInstance (T:="StopIteration") (b:=true) ⟨o,U,hc⟩ isSubtype_stop (wpAny_pure q))
end
section
variable {prog:Program} {w:World} {A:Around} {E:Value->Shared->Prop} {s:Shared} {I S:Addr} {l:List (Int × Tok)} {ep:Nat} {t:SetTable} {i:Nat} {f0:Value}
theorem sR{slot nx:Nat}{v:Value}(C:I≠S)(hI:qS s.heap I S (.int slot 0) i l.length ep)(x:bW w s.heap S l ep t)
  (hn:∀(Q':Option (Value×Nat)->Shared->Prop)(E':Value->Shared->Prop),Q' (some (v,nx)) s->wpAny (model prog w) A.in1 (setNext S slot i ep) Q' E' s)
  (hQ:∀h',qS h' I S (.int nx 0) (i+1) l.length ep->bW w h' S l ep t->(∀b o,b≠I->s.heap.get? b=some o->h'.get? b=some o)->Q (some v) { s with heap:=h' }):
  wpAny (model prog w) A (pyNext (.ref I)) Q E s:=by
 refine jC hI x ?_;refine wpAny_bind (hn _ _ ?_);refine wpAny_bind (wpAny_setField_rec hI (by simp) λ h1 aa J=>?_);refine wpAny_bind (wpAny_setField_rec aa (by simp) λ h2 ab U=>wpAny_pure ⟨v,rfl,?_⟩);refine hQ h2 (by simpa[qS,rawInt]using ab) (x.at λ o e=>?_) λ b o hb e=>?_;. rw[U.2 S C.symm,J.2 S C.symm];exact e
 .rw[U.2 b hb,J.2 b hb];exact e
theorem jm{slot:Nat}(hh:A.handled=none)(J:qS s.heap I S (.int slot 0) i l.length ep)(x:bW w s.heap S l ep t)
  (hn:∀(U:Option (Value×Nat)->Shared->Prop)(E':Value->Shared->Prop),U none s->wpAny (model prog w) A.in1 (setNext S slot i ep) U E' s)
  (hQ:∀h',(∀b o,b≠I->s.heap.get? b=some o->h'.get? b=some o)->Q none { s with heap:=h' }):
  wpAny (model prog w) A (pyNext (.ref I)) Q E s:=by refine jC J x ?_;refine wpAny_bind (hn _ _ ?_);refine wpAny_bind (wpAny_setField_rec J (by simp) λ h1 aa C=>?_);refine jZ (s:={ s with heap:=h1 }) hh λ h' e kp he=>?_;obtain⟨o,ho,hc⟩:=he;refine⟨⟨e,o,rfl,ho,hc⟩,hQ h' λ b o hb e=>kp b o ?_⟩;rw[C.2 b hb];exact e
theorem BK{T:Addr}{places:Array Value}{p:Nat}{v:Int×Tok}(J:I≠S)(aa:I≠T)(hI:qS s.heap I S (.ref T) i l.length ep)(x:bW w s.heap S l ep t)
  (hT:s.heap.get? T=some { cls:= .type "tuple",data:= .seq places })(hp:places[i]?=some (.int p 0))(hv:l[p]?=some v)
  (hQ:∀h',qS h' I S (.ref T) (i+1) l.length ep->bW w h' S l ep t->(∀b o,b≠I->s.heap.get? b=some o->h'.get? b=some o)->Q (some (.int v.1 v.2)) { s with heap:=h' }):
  wpAny (model prog w) A (pyNext (.ref I)) Q E s:=by
 refine jC hI x ?_;refine wpAny_bind (wpAny_seqItems hT rfl ?_);dsimp only;rw[hp];refine wpAny_bind ?_;refine wpAny_bind (x.state ?_);dsimp only;rw[if_neg (by simp)];have:(l.map eo).toArray[(p:Int).toNat]?=some (eo v):=by simp[hv]
 rw[this];refine wpAny_pure ?_;refine wpAny_bind (wpAny_setField_rec hI (by simp) λ h1 U C=>wpAny_pure ⟨_,rfl,?_⟩);refine hQ h1 (by simpa[qS,rawInt]using U) (x.at λ o e=>?_) λ b o hb e=>?_;. rw[C.2 S J.symm];exact e
 .rw[C.2 b hb];exact e
theorem pe{T:Addr}{places:Array Value}(hh:A.handled=none)(hI:qS s.heap I S (.ref T) i l.length ep)(x:bW w s.heap S l ep t)
  (hT:s.heap.get? T=some { cls:= .type "tuple",data:= .seq places })(hp:places[i]?=none)
  (hQ:∀h',(∀b o,b≠I->s.heap.get? b=some o->h'.get? b=some o)->Q none { s with heap:=h' }):
  wpAny (model prog w) A (pyNext (.ref I)) Q E s:=by refine jC hI x ?_;refine wpAny_bind (wpAny_seqItems hT rfl ?_);dsimp only;rw[hp];refine wpAny_bind (wpAny_setField_rec hI (by simp) λ h1 C J=>?_);refine wpAny_bind (wpAny_setField_rec C (by simp) λ h2 aa U=>?_);refine jZ (s:={ s with heap:=h2 }) hh λ h' e kp he=>?_;obtain⟨o,ho,hc⟩:=he;refine⟨⟨e,o,rfl,ho,hc⟩,hQ h' λ b o hb e=>kp b o ?_⟩;rw[U.2 b hb,J.2 b hb];exact e
theorem nC{n:Nat}(C:qS s.heap I S f0 i n ep)(h:Q (.ref I) s):wpAny (model prog w) A (pyIter (.ref I)) Q E s:=by have o:s.TypeIs (.ref I) "set_iterator":=⟨_,C,rfl⟩;refine wpAny_pyIter_slot o kc (wpAny_call_entry kc o rO ?_ (rb _));exact wpAny_pure ⟨_,rfl,"set_iterator",_,o,eK.lookup,h⟩
theorem dW{α:Type}:∀{l:List α}{i:Nat}(h:i<l.length),(l[i]::l.eraseIdx i).Perm l
 |[],_,h=>absurd h (Nat.not_lt_zero _)
 |x::l,0,_=>List.Perm.refl _
 |x::l,i+1,h=>(List.Perm.swap _ _ _).trans ((dW (l:=l) (i:=i) (by grind)).cons x)
theorem Dt(next:Nat->Nat):∀(fuel k:Nat)(left:List α)(out:Array α),fuel=left.length->(pickOrder.go next fuel k left out).toList.Perm (out.toList++left):=by intro fuel;induction fuel with
 |zero=>intro k left out h;have:left=[]:=List.eq_nil_of_length_eq_zero h.symm;subst this;unfold pickOrder.go;simp
 |succ fuel C=>intro k left out h;unfold pickOrder.go;have o:next k%left.length<left.length:=Nat.mod_lt _ (by omega);rw[List.getElem?_eq_getElem o];refine(C _ _ _ (by rw[List.length_eraseIdx];split <;> omega)).trans ?_;rw[Array.toList_push,List.append_assoc];refine List.Perm.append_left _ ?_;exact(dW o)
theorem u3(next:Nat->Nat)(xs:Array α):(pickOrder next xs).toList.Perm xs.toList:=by unfold pickOrder;have:=Dt next xs.size 0 xs.toList #[] (by simp);grind
theorem rD{Q:List Nat->Shared->Prop}:∀(n:Nat)(xs:List Nat)(s:Shared),n=xs.length->(∀ys d,ys.Perm xs->Q ys { s with drawn:=d })->wpAny M A (drawOrder n xs) Q E s:=by intro n;induction n generalizing Q with
 |zero=>intro xs s h o;have:xs=[]:=List.eq_nil_of_length_eq_zero h.symm;subst this;exact wpAny_pure (o [] s.drawn (List.Perm.refl _))
 |succ n J=>intro xs s h o;cases xs with
  |nil=>cases h
  |cons x xs=>refine wpAny_bind (λ Γ p U=>?_);refine⟨by simp,?_⟩;rw[Sem.wp_pure];have C:M.w.draws Source.order (s.drawn.get Source.order)%(x::xs).length<(x::xs).length:=Nat.mod_lt _ (by simp);dsimp only;rw[List.getElem?_eq_getElem C];refine wpAny_bind (J _ _ (by rw[List.length_eraseIdx];split <;> (omega)) λ ys d py=>wpAny_pure ?_);exact o _ d ((py.cons _).trans (dW C))
end
section
variable {prog:Program} {w:World} {A:Around} {E:Value->Shared->Prop} {s:Shared} {I S:Addr} {l:List (Int × Tok)} {ep:Nat} {t:SetTable} {i:Nat}
theorem jA(h:Q (w.params.followText "set-order") s):wpAny (model prog w) A setsByText Q E s:=wpAny_bind (wpAny_askSetting (wpAny_pure h))
theorem vK(x:bW w s.heap S l ep t)(h:Q (!w.params.followText "set-order"&&(!t.plain&&decide (l.length>1))) s):wpAny (model prog w) A (setDrawn S) Q E s:=by
 refine wpAny_bind (x.state ?_);refine wpAny_bind (jA ?_);have e:(l.map eo).toArray.size=l.length:=by simp
 rw[<- e]at h;exact wpAny_pure h
theorem mz(hw:w.params.followText "set-order"=true)(x:bW w s.heap S l ep t)(h:Q (((pickOrder (w.params.setOrder S ep) (l.map eo).toArray)[i]?).map λ e=>(e.2,slot)) s):
  wpAny (model prog w) A (setNext S slot i ep) Q E s:=by refine wpAny_bind (x.state ?_);refine wpAny_bind (jA ?_);rw[hw,if_pos rfl,if_neg (by simp)];refine wpAny_bind ?_;refine wpAny_bind (x.state ?_);refine wpAny_bind (jA ?_);rw[hw];exact wpAny_bind (wpAny_askSetting (wpAny_pure (wpAny_pure h)))
theorem kH(hw:w.params.followText "set-order"=false)(hd:(!t.plain&&decide (l.length>1))=false)(x:bW w s.heap S l ep t)
  (h:Q (match(l.map eo).toArray[SetTable.below t.place slot]?,t.place[SetTable.below t.place slot]? with
   |some (_,x),some j=>some (x,j+1)
   |_,_=>none) s):wpAny (model prog w) A (setNext S slot i ep) Q E s:=by
 refine wpAny_bind (x.state ?_);refine wpAny_bind (jA ?_);rw[hw,if_neg Bool.false_ne_true];have e:(l.map eo).toArray.size=l.length:=by simp
 rw[<- e]at hd;refine(show∀{b:Bool}{m k:Sem (Option (Value×Nat))},b=false->wpAny (model prog w) A k Q E s->wpAny (model prog w) A (if b=true then m else k) Q E s from λ o C=>by simp_all) hd ?_;refine wpAny_bind ?_;have U:t.led=true:=by rw[x.led,hw];rfl
 refine(show∀{b:Bool}{m k:Sem PUnit}{J:PUnit->Shared->Prop},b=false->wpAny (model prog w) A k J E s->wpAny (model prog w) A (if b=true then m else k) J E s from λ o C=>by rw[o];exact C) (show(!t.led&& !(l.map eo).toArray.isEmpty)=false by rw[U];rfl) ?_;exact wpAny_pure (wpAny_pure h)
noncomputable def mR(prog:Program)(w:World)(I S:Addr)(l:List (Int×Tok))(h':Heap)(top:Addr):Prop:=
 ∃(ord:List (Int×Tok)) (fp:List Addr) (St:Nat->Heap->Prop),ord.Perm l/\(∀A:Around,A.handled=none->Walks prog w A I fp [I] l.length (λ i v=>∃p,ord[i]?=some p/\v= .int p.1 p.2) St)/\St 0 h'/\
  (∀i h,St i h->∃o,h.get? I=some o/\o.cls= .type "set_iterator")/\I∈fp/\∀b∈fp,b<h'.objs.size/\(b=S\/top<=b)
theorem qr {h':Heap} {top:Addr} (hw:w.params.followText "set-order" = true) (hIS:I ≠ S) (ht:top ≤ I) (hI:qS h' I S (.int 0 0) 0 l.length ep) (x:bW w h' S l ep t):mR prog w I S l h' top:= by
 have p0:=u3 (w.params.setOrder S ep) (l.map eo).toArray
 rw [show (l.map eo).toArray.toList=l.map eo by simp] at p0
 obtain ⟨ord,eord,pord⟩:=mV p0
 have eg:∀i:Nat,(pickOrder (w.params.setOrder S ep) (l.map eo).toArray)[i]? = (ord[i]?).map eo:=fun i=>by
  rw [<- Array.getElem?_toList,eord,List.getElem?_map]
 have hlen:ord.length=l.length:=pord.length_eq
 refine ⟨ord,[I,S],fun i h=>qS h I S (.int 0 0) i l.length ep∧bW w h S l ep t,pord,fun A hh=>⟨?_,?_,?_,?_,?_⟩,⟨hI,x⟩,fun i h st=>⟨_,st.1,rfl⟩,by simp,fun b hb=>?_⟩
 .intro b hb
  rw [List.mem_singleton.mp hb];simp
 .intro i h h2 st k
  exact ⟨k I (by simp) _ st.1,st.2.at fun o e=>k S (by simp) o e⟩
 .intro i s Q E hi st hQ
  have hx:ord[i]? = some ord[i]:=List.getElem?_eq_getElem (by omega)
  refine sR (v:=.int ord[i].1 ord[i].2) (nx:=0) hIS st.1 st.2 (fun Q' E' q=>mz hw st.2 ?_) fun h2 a1 a2 a3=>hQ _ h2 s.toks ⟨_,hx,rfl⟩ ⟨a1,a2⟩ fun b o hb e=>a3 b o (fun z=>hb (by rw [z];simp)) e
  rw [eg,hx];exact q
 .intro s Q E st hQ
  refine jm hh st.1 st.2 (fun Q' E' q=>mz hw st.2 ?_) fun h2 a3=>hQ h2 s.toks fun b o hb e=>a3 b o (fun z=>hb (by rw [z];simp)) e
  simp_all
 .intro i s Q E st hQ
  exact nC st.1 hQ
 .rcases List.mem_cons.mp hb with e | hb
  .rw [e];exact ⟨Heap.lt_size hI,.inr ht⟩
  .rw [List.mem_singleton.mp hb]
   obtain ⟨o,ho,_⟩:=x.obj
   exact ⟨Heap.lt_size ho,.inl rfl⟩
theorem sL(u:Up xs){i j:Nat}(h:xs[i]?=some j):SetTable.below xs (j+1)=i+1:=by
 obtain⟨J,b1,C⟩:=iC u (j+1);have U:i<SetTable.below xs (j+1):=by
  rcases Nat.lt_or_ge i (SetTable.below xs (j+1))with q|q
  .exact q
  .have:=C i j q h;omega
 rcases Nat.lt_or_ge (i+1) (SetTable.below xs (j+1))with q|q
 .have hs:i+1<xs.size:=by omega
  have o:xs[i+1]?=some xs[i+1]:=by simp
  have a1:=b1 (i+1) _ q o;have a2:=u.lt (Nat.lt_succ_self i) h o;omega
 omega
theorem rp(u:Up xs):SetTable.below xs 0=0:=by
 obtain⟨o,b1,C⟩:=iC u 0;rcases Nat.eq_zero_or_pos (SetTable.below xs 0)with q|q
 .exact q
 .have J:xs[0]?=some xs[0]:=by simp
  grind
theorem mX{top:Addr}(hw:w.params.followText "set-order"=false)(hd:(!t.plain&&decide (l.length>1))=false)(ab:I≠S)(ht:top<=I)(hI:qS h' I S (.int 0 0) 0 l.length ep)(x:bW w h' S l ep t):mR prog w I S l h' top:=by
 have hsz:t.place.size=l.length:=by have:=x.fits;simp only[SetTable.fits,Bool.and_eq_true,beq_iff_eq]at this;exact this.1
 have u:Up t.place:=by cases hp:t.plain with
  |true=>exact x.tb hp
  |false=>
   rw[hp]at hd;have hl: ¬l.length>1:=by simpa using hd
   unfold Up;have aa:t.place.toList.length<=1:=by rw[Array.length_toList];omega
   generalize t.place.toList=q at aa;match q,aa with
   |[],_=>exact List.Pairwise.nil
   |[_],_=>exact List.pairwise_singleton _ _
   |_::_::_,h=>simp at h
 refine⟨l,[I,S],λ i h=>∃slot:Nat,qS h I S (.int slot 0) i l.length ep/\bW w h S l ep t/\SetTable.below t.place slot=i,List.Perm.refl _,λ A hh=>⟨?_,?_,?_,?_,?_⟩,⟨0,hI,x,rp u⟩,λ i h ⟨_,st,_⟩=>⟨_,st,rfl⟩,by simp,λ b hb=>?_⟩;. intro b hb;rw[List.mem_singleton.mp hb];simp
 .rintro i h h2 ⟨slot,J,C,U⟩ k;exact⟨slot,k I (by simp) _ J,C.at λ o e=>k S (by simp) o e,U⟩
 .rintro i s Q E hi ⟨slot,J,C,U⟩ hQ;have hx:l[i]?=some l[i]:=List.getElem?_eq_getElem hi;have hp:t.place[i]?=some t.place[i]:=by simp[hsz,hi]
  refine sR (v:= .int l[i].1 l[i].2) (nx:=t.place[i]+1) ab J C (λ Q' E' q=>kH hw hd C ?_) λ h2 a1 a2 a3=>hQ _ h2 s.toks ⟨_,hx,rfl⟩ ⟨_,a1,a2,sL u hp⟩ λ b o hb e=>a3 b o (λ z=>hb (by rw[z];simp)) e;have e1:(l.map eo).toArray[i]?=some (eo l[i]):=by simp[hi]
  rw[U,e1,hp];exact q
 .rintro s Q E ⟨slot,J,C,U⟩ hQ;refine jm hh J C (λ Q' E' q=>kH hw hd C ?_) λ h2 a3=>hQ h2 s.toks λ b o hb e=> a3 b o (λ z=>hb (by rw [z];simp)) e;have e1:(l.map eo).toArray[l.length]? = none:=by simp
  rw [U,e1];exact q
 .rintro i s Q E ⟨slot,J,C,U⟩ hQ;exact nC J hQ
 .rcases List.mem_cons.mp hb with e | hb
  .rw [e];exact ⟨Heap.lt_size hI,.inr ht⟩
  .rw [List.mem_singleton.mp hb];obtain ⟨o,ho,_⟩:=x.obj;exact ⟨Heap.lt_size ho,.inl rfl⟩
theorem pJ {h':Heap} {top T:Addr} {ys:List Nat} (hp:ys.Perm (List.range l.length)) (hIS:I ≠ S) (hIT:I ≠ T) (ht:top ≤ I) (htT:top ≤ T) (hI:qS h' I S (.ref T) 0 l.length ep) (x:bW w h' S l ep t)
  (hT:h'.get? T=some { cls:=.type "tuple",data:=.seq (ys.map fun (i:Nat)=>rawInt i).toArray }):mR prog w I S l h' top:= by
 have hyl:ys.length=l.length:=by rw [hp.length_eq,List.length_range]
 have hin:∀y ∈ ys,y < l.length:=fun y hy=>List.mem_range.mp (hp.mem_iff.mp hy)
 have hpo:(ys.filterMap fun i=>l[i]?).Perm l:=(hp.filterMap _).trans (by rw [List.filterMap_getElem?_range_length])
 have eg:∀i (h:i < ys.length),(ys.filterMap fun i=>l[i]?)[i]? = l[ys[i]]?:= by
  have gen:∀(zs:List Nat),(∀y ∈ zs,y < l.length)->∀i (h:i < zs.length),(zs.filterMap fun i=>l[i]?)[i]? = l[zs[i]]?:= by
   intro zs
   induction zs with
   | nil=>intro _ i h;exact absurd h (Nat.not_lt_zero _)
   | cons z zs ih=>
    intro hz i h
    have hzl:z < l.length:=hz z List.mem_cons_self
    have e1:l[z]? = some l[z]:=List.getElem?_eq_getElem hzl
    rw [List.filterMap_cons_some e1]
    cases i with
    | zero=>simp [e1]
    | succ i=>simpa using ih (fun y hy=>hz y (List.mem_cons_of_mem _ hy)) i (by simpa using h)
  grind
 refine ⟨ys.filterMap fun i=>l[i]?,[I,S,T],fun i h=>qS h I S (.ref T) i l.length ep∧bW w h S l ep t∧h.get? T=some { cls:=.type "tuple",data:=.seq (ys.map fun (i:Nat)=>rawInt i).toArray },hpo,fun A hh=>⟨?_,?_,?_,?_,?_⟩,⟨hI,x,hT⟩,fun i h st=>⟨_,st.1,rfl⟩,by simp,fun b hb=>?_⟩
 .intro b hb
  rw [List.mem_singleton.mp hb];simp
 .rintro i h h2 ⟨st1,st2,st3⟩ k
  exact ⟨k I (by simp) _ st1,st2.at fun o e=>k S (by simp) o e,k T (by simp) _ st3⟩
 .rintro i s Q E hi ⟨st1,st2,st3⟩ hQ
  have hi':i < ys.length:=by omega
  have hyi:ys[i] < l.length:=hin _ (List.getElem_mem hi')
  have hx:l[ys[i]]? = some l[ys[i]]:=List.getElem?_eq_getElem hyi
  refine BK hIS hIT st1 st2 st3 (p:=ys[i]) (by simp [hi',rawInt]) hx fun h2 a1 a2 a3=>hQ _ h2 s.toks ⟨_,(eg i hi').trans hx,rfl⟩ ⟨a1,a2,a3 T _ (fun z=>hIT z.symm) st3⟩ fun b o hb e=>a3 b o (fun z=>hb (by rw [z];simp)) e
 .rintro s Q E ⟨st1,st2,st3⟩ hQ
  exact pe hh st1 st2 st3 (by simp [hyl]) fun h2 a3=>hQ h2 s.toks fun b o hb e=>a3 b o (fun z=>hb (by rw [z];simp)) e
 .rintro i s Q E ⟨st1,st2,st3⟩ hQ
  exact nC st1 hQ
 .rcases List.mem_cons.mp hb with e | hb
  .rw [e];exact ⟨Heap.lt_size hI,.inr ht⟩
  .rcases List.mem_cons.mp hb with e | hb
   .rw [e]
    obtain ⟨o,ho,_⟩:=x.obj
    exact ⟨Heap.lt_size ho,.inl rfl⟩
   .rw [List.mem_singleton.mp hb]
    exact ⟨Heap.lt_size hT,.inr htT⟩
theorem vW(x:bW w s.heap S l ep t)
  (h:∀(I:Addr)(h':Heap)(d:Drawn),(∀b o,s.heap.get? b=some o->h'.get? b=some o)->s.heap.objs.size<=I->mR prog w I S l h' s.heap.objs.size->Q (.ref I) { s with heap:=h',drawn:=d }):
  wpAny (model prog w) A (pyIter (.ref S)) Q E s:=by
 have U:S<s.heap.objs.size:=by obtain⟨o,ho,_⟩:=x.obj;exact Heap.lt_size ho
 refine wpAny_pyIter_slot x.ty F.slot_set_iter (wpAny_call_entry F.slot_set_iter x.ty qP ?_ (F.args_set_iter_1 _));refine wpAny_bind (m:=Builtin.Frozenset.slot0 "__iter__" ⟨[.ref S],[]⟩) (wpAny_pure ?_);refine wpAny_bind ?_;refine wpAny_bind (wpAny_bind (x.state (wpAny_pure (wpAny_pure ?_))));have ez:(l.map eo).toArray.size=l.length:=by simp
 rw[ez];refine wpAny_bind (vK x ?_);by_cases hb:(!w.params.followText "set-order"&&(!t.plain&&decide (l.length>1)))=true
 .rw[if_pos hb];refine wpAny_bind (rD l.length (List.range l.length) s (by simp) λ ys d py=>?_);have aa:ys.length=l.length:=by rw[py.length_eq,List.length_range]
  refine wpAny_bind (wpAny_newTuple ?_ (by rw[List.length_map,aa];exact fits_of_scanBound x.few));have C:bW w (s.heap.push { cls:= .type "tuple",data:= .seq (ys.map λ(i:Nat)=>rawInt i).toArray }) S l ep t:=x.at λ o e=>Heap.get?_push_of_some _ e;refine wpAny_bind ?_;refine wpAny_bind (bW.state (s:={ s with drawn:=d,heap:=s.heap.push { cls:= .type "tuple",data:= .seq (ys.map λ(i:Nat)=>rawInt i).toArray } }) C (wpAny_pure ?_));refine wpAny_bind (wpAny_newObj_type (wpAny_pure ⟨_,rfl,"set_iterator",_,⟨_,Heap.get?_push_size _ rfl,rfl⟩,eK.lookup,?_⟩));refine h _ _ d (λ b o e=>Heap.get?_push_of_some _ (Heap.get?_push_of_some _ e)) (by rw[Heap.size_push];exact Nat.le_succ _) ?_;refine pJ (t:=t) py (λ z=>?_) (λ z=>?_) ?_ (Nat.le_refl _) (Heap.get?_push_size _ rfl) (C.at λ o e=>Heap.get?_push_of_some _ e) (Heap.get?_push_of_some _ (Heap.get?_push_size _ rfl));. rw[<- z]at U;have J:(s.heap.push { cls:= .type "tuple",data:= .seq (ys.map λ(i:Nat)=>rawInt i).toArray }).objs.size<s.heap.objs.size:=U;rw[Heap.size_push]at J;exact absurd J (Nat.not_lt.mpr (Nat.le_succ _))
  .have z':(s.heap.push { cls:= .type "tuple",data:= .seq (ys.map λ(i:Nat)=>rawInt i).toArray }).objs.size=s.heap.objs.size:=z;rw[Heap.size_push]at z';exact Nat.succ_ne_self _ z'
  simp
 .rw[if_neg hb];refine wpAny_bind (wpAny_pure ?_);refine wpAny_bind ?_;refine wpAny_bind (x.state (wpAny_pure ?_));refine wpAny_bind (wpAny_newObj_type (wpAny_pure ⟨_,rfl,"set_iterator",_,⟨_,Heap.get?_push_size _ rfl,rfl⟩,eK.lookup,?_⟩));refine h _ _ s.drawn (λ b o e=>Heap.get?_push_of_some _ e) (Nat.le_refl _) ?_;have C:bW w (s.heap.push { cls:= .type "set_iterator",data:= .fields [rawInt 0,rawInt 0,.ref S,rawInt l.length,rawInt ep].toArray }) S l ep t:=x.at λ o e=>Heap.get?_push_of_some _ e;cases hw:w.params.followText "set-order" with
  |true=>exact qr hw (λ z=>Nat.lt_irrefl _ (z▸U)) (Nat.le_refl _) (Heap.get?_push_size _ rfl) C
  |false=>rw[hw]at hb;exact mX hw (by simpa using hb) (λ z=>Nat.lt_irrefl _ (z▸U)) (Nat.le_refl _) (Heap.get?_push_size _ rfl) C
end
section
variable {prog:Program} {w:World} {A:Around} {E:Value->Shared->Prop} {s:Shared} {I S:Addr} {l:List (Int × Tok)} {ep:Nat} {t:SetTable}
theorem ye(x:bW w s.heap S l ep t)(h:Q false s):wpAny (model prog w) A (Builtin.List.listLengthHint (.ref S)) Q E s:=by refine wpAny_bind (wpAny_specialOf x.ty F.slot_set_len.lookup ?_);generalize BP:("set.__len__":String)=o;wp_delta;subst BP;refine wpAny_bind (wpAny_isInstance (T:="set") (b:=true) x.ty (by kernel_rfl) ?_);exact wpAny_bind (wpAny_typeOf x.ty (wpAny_pure h))
theorem jG{ord:List (Int×Tok)}{acc:Array Value}(h:ItemsOf (λ i v=>∃p,ord[i]?=some p/\v= .int p.1 p.2) acc ord.length):acc.toList=ord.map λ p=>Value.int p.1 p.2:=by
 refine List.ext_getElem? λ i=>?_;rw[List.getElem?_map];by_cases o:i<acc.size
 .have e:acc[i]?=some acc[i]:=by simp
  obtain⟨p,C,J⟩:=h.2 i _ e;simp_all
 .rw[Array.getElem?_toList,Array.getElem?_eq_none (by omega),List.getElem?_eq_none (by have:=h.1;omega)];rfl
theorem ng{Q:List Value->Shared->Prop}(hh:A.handled=none)(x:bW w s.heap S l ep t)
  (h:∀(ord:List (Int×Tok))(h':Heap)(tk:Nat)(d:Drawn),ord.Perm l->(∀b o,s.heap.get? b=some o->h'.get? b=some o)->Q (ord.map λ p=>Value.int p.1 p.2) { s with heap:=h',toks:=tk,drawn:=d }):
  wpAny (model prog w) A (collect (.ref S)) Q E s:=by
 have C:S<s.heap.objs.size:=by obtain⟨o,ho,_⟩:=x.obj;exact Heap.lt_size ho
 refine wpAny_bind (wpAny_runValue (codeAny_builtin F.entry_proto_collect ?_));refine wpAny_bind (wpAny_newObj_type (wpAny_pure ⟨plainId_quiet F.plain_list_iadd _,codeAny_builtin F.entry_list_iadd ?_⟩));rw[Around.under_plainId F.plain_list_iadd _];have g1:(s.heap.push { cls:= .type "list",data:= .seq ([]:List Value).toArray }).get? s.heap.objs.size=some { cls:= .type "list",data:= .seq ([]:List Value).toArray }:=Heap.get?_push_size _ rfl;have x1:bW w (s.heap.push { cls:= .type "list",data:= .seq ([]:List Value).toArray }) S l ep t:=x.at λ o e=>Heap.get?_push_of_some _ e;have af:Builtin.List.listSameRef (.ref s.heap.objs.size) (.ref S)=false:=by show(s.heap.objs.size==S)=false;simp only[beq_eq_false_iff_ne];exact Nat.ne_of_gt C
 show wpAny (model prog w) A.in1 (Builtin.List.listExtendWith (.ref s.heap.objs.size) (.ref S) (.ref s.heap.objs.size)) _ _ _;refine wpAny_bind (wpAny_typeOf (bW.ty (s:={ s with heap:=s.heap.push { cls:= .type "list",data:= .seq ([]:List Value).toArray } }) x1) ?_);have h2:(Value.type "set"==Value.type "list")=false:=by decide
 have h3:(Value.type "set"==Value.type "tuple")=false:=by decide
 simp[af];refine wpAny_bind (vW (s:={ s with heap:=s.heap.push { cls:= .type "list",data:= .seq ([]:List Value).toArray } }) x1 λ I U d kp hI Y=>?_);have x2:bW w U S l ep t:=x1.at λ o e=>kp S o e;refine wpAny_bind (wpAny_holding (ye (s:={ s with heap:=U,drawn:=d }) x2 ?_));refine wpAny_bind (wpAny_rule (wpAny_bind ?_));have g2:=kp _ _ g1;refine wpAny_bind (wpAny_updateSeq (s:={ s with heap:=U,drawn:=d }) g2 rfl ?_)
 have g3:=Heap.get?_update_self (Obj.mapSeq (·.push Value.none)) g2 rfl
 refine wpAny_updateSeq (s:={ s with heap:=U.update s.heap.objs.size (Obj.mapSeq (·.push Value.none)),drawn:=d }) g3 rfl ?_ (hz:=by seq_fits)
 have g4:=Heap.get?_update_self (Obj.mapSeq (·.pop)) g3 rfl
 obtain⟨ord,fp,St,po,W,ag,hT,ao,ah⟩:=Y
 have ab:s.heap.objs.size∉fp:= λ hm=>by
  obtain⟨_,h6⟩:=ah _ hm
  rcases h6 with e|e
  .rw[e]at C;exact Nat.lt_irrefl _ C
  .have e':(s.heap.push { cls:= .type "list",data:= .seq ([]:List Value).toArray }).objs.size<=s.heap.objs.size:=e
   rw[Heap.size_push]at e'
   exact Nat.not_succ_le_self _ e'
 have oth:∀b o,b≠s.heap.objs.size->U.get? b=some o->((U.update s.heap.objs.size (Obj.mapSeq (·.push Value.none))).update s.heap.objs.size (Obj.mapSeq (·.pop))).get? b=some o:= λ b o hb e=>by
  rw[Heap.get?_update_other _ _ (Ne.symm hb),Heap.get?_update_other _ _ (Ne.symm hb)];exact e
 have hlen:ord.length=l.length:=po.length_eq
 have ai:St 0 ((U.update s.heap.objs.size (Obj.mapSeq (·.push Value.none))).update s.heap.objs.size (Obj.mapSeq (·.pop))):=(W A.in1 hh).frame 0 U _ ag λ b hb o e=>oth b o (λ z=>ab (z▸hb)) e
 refine wpAny_pure ⟨plainId_quiet F.plain_extend_loop _,codeAny_extend_loopS (W A.in1 hh).toS (fits_of_scanBound x.few) _ ab _ l.length 0 { s with heap:=(U.update s.heap.objs.size (Obj.mapSeq (·.push Value.none))).update s.heap.objs.size (Obj.mapSeq (·.pop)),drawn:=d } #[] _ rfl (Nat.zero_le _) ai g4 (ItemsOf.nil _) fun s' ak c' hm aj aa=>?_⟩
 refine wpAny_bind (wpAny_load aj (wpAny_pure ?_))
 rw[<-hlen]at aa
 rw[jG aa,Moved.eq_with hm]
 refine h ord s'.heap s'.toks d po fun b o e=>?_
 have hb:=Heap.lt_size e
 refine hm.heap b o (fun J=>?_) (oth b o (Nat.ne_of_lt hb) (kp b o (Heap.get?_push_of_some _ e)))
 rcases List.mem_cons.mp J with e'|J
 .rw[e']at hb;exact Nat.lt_irrefl _ hb
 .have e':=List.mem_singleton.mp J
  have ae:(s.heap.push { cls:= .type "list",data:= .seq ([]:List Value).toArray }).objs.size≤I:=hI
  rw[Heap.size_push]at ae
  exact absurd hb (Nat.not_lt.mpr (Nat.le_of_succ_le (e'▸ae)))
theorem jw{ns:List Int}{Q:Value->Shared->Prop}
  (hc:∀(U:Around)(Q':List Value->Shared->Prop)(E':Value->Shared->Prop),(U.handled=A.handled)->(∀(vs:List Value)(ms:List Int)(h':Heap)(tk:Nat)(d:Drawn),PyProof.Rows.IntsAre vs ms->ms.Perm ns->(∀b o,s.heap.get? b=some o->h'.get? b=some o)->Q' vs { s with heap:=h',toks:=tk,drawn:=d })->
   wpAny (model prog w) U (collect v) Q' E' s)(aa:ns.length<64)
  (h:∀(C h':Heap)(tk:Nat)(d:Drawn)(out:List Value)(ms:List Int)(e:Nat),(∀b o,s.heap.get? b=some o->C.get? b=some o)->(∀b o,C.get? b=some o->h'.get? b=some o)->h'.get? C.objs.size=some { cls:= .type "list",data:= .seq out.toArray e }->
   PyProof.Rows.IntsAre out ms->ms.Perm ns->ms.Pairwise (. <= .)->Q (.ref C.objs.size) { s with heap:=h',toks:=tk,drawn:=d }):
  wpAny (model prog w) A (call (.builtin "sorted") [v]) Q E s:=by
 refine Calls.call_function_entry PyProof.Rows.kind_sorted PyProof.Rows.plain_sorted PyProof.Rows.entry_sorted (PyProof.Rows.args_sorted1 _) ?_;refine wpAny_bind (m:=checkCount "sorted" 1 1 _) (wpAny_pure ?_);refine wpAny_bind (hc _ _ _ (by simp) λ vs ms C tk d hi pm kp=>?_);have hl:vs.length=ns.length:=by rw[hi.length,pm.length_eq]
 refine wpAny_bind (wpAny_newList ?_ (by rw[sizeLine_eq];omega));have g1:(C.push (PyProof.Rows.seqObj "list" vs.toArray 0)).get? C.objs.size=some (PyProof.Rows.seqObj "list" vs.toArray 0):=Heap.get?_push_size _ rfl;refine wpAny_bind (wpAny_holding (wpAny_call_entry PyProof.Rows.slot_list_sort ⟨_,g1,rfl⟩ PyProof.Rows.entry_list_sort (PyProof.Rows.list_sort_tree (s:={ s with heap:=C.push (PyProof.Rows.seqObj "list" vs.toArray 0),toks:=tk,drawn:=d }) g1 hi (by omega) λ out J a1 a2 a3=>⟨_,rfl,?_⟩) (PyProof.Rows.args_list_sort _)));obtain⟨e,he⟩:=PyProof.Rows.sortedHeap_at (out:=out) g1;refine wpAny_pure ⟨_,rfl,h C _ tk d out.toList J e kp (λ b o eb=>?_) (by omega) a1 (a2.trans pm) a3⟩;have hb:=Heap.lt_size eb;rw[PyProof.Rows.sortedHeap_old (Nat.ne_of_lt hb) (by rw[Heap.size_push];grind)];exact Heap.get?_push_of_some _ eb
end
noncomputable def lu(b:Bool)(h:Heap)(q:Addr)(xs:Array Value):Prop:=match b with
 |true=>h.IsTuple q xs
 |false=>h.IsList q xs
noncomputable def lA(b:Bool)(h:Heap)(it q:Addr)(k:Nat):Prop:=match b with
 |true=>h.IsTupleIter it q k
 |false=>h.IsListIter it q k
noncomputable def eG(b:Bool)(q:Addr):Obj:={ cls:= .type (if b then"tuple_iterator" else"list_iterator"),data:= .fields #[.ref q,.int 0 0] }
section
variable {prog:Program} {w:World} {A:Around} {E:Value->Shared->Prop} {s:Shared} {b:Bool} {it q:Addr} {k:Nat} {xs:Array Value}
theorem lu.at(x:lu b h q xs)(e:∀o,h.get? q=some o->h'.get? q=some o):lu b h' q xs:=by cases b with
 |true=>obtain⟨o,C,r⟩:=x;exact⟨o,e o C,r⟩
 |false=>obtain⟨o,C,r⟩:=x;exact⟨o,e o C,r⟩
theorem lA.at(x:lA b h it q k)(e:∀o,h.get? it=some o->h'.get? it=some o):lA b h' it q k:=by cases b with
 |true=>obtain⟨o,C,r⟩:=x;exact⟨o,e o C,r⟩
 |false=>obtain⟨o,C,r⟩:=x;exact⟨o,e o C,r⟩
theorem lA.lt(x:lA b h it q k):it<h.objs.size:=by cases b with
 |true=>obtain⟨o,C,r⟩:=x;exact Heap.lt_size C
 |false=>obtain⟨o,C,r⟩:=x;exact Heap.lt_size C
theorem lu.lt(x:lu b h q xs):q<h.objs.size:=by cases b with
 |true=>obtain⟨o,C,r⟩:=x;exact Heap.lt_size C
 |false=>obtain⟨o,C,r⟩:=x;exact Heap.lt_size C
theorem iJ(x:lu b s.heap q xs)(h:Q (.ref s.heap.objs.size) { s with heap:=s.heap.push (eG b q) }):wpAny (model prog w) A (pyIter (.ref q)) Q E s:=by cases b with
 |true=>exact wpAny_pyIter_tuple x h
 |false=>exact wpAny_pyIter_list x h
theorem lA.new{h:Heap}:lA b (h.push (eG b q)) h.objs.size q 0:=by cases b with
 |true=>exact⟨_,Heap.get?_push_size _ rfl,rfl,rfl⟩
 |false=>exact⟨_,Heap.get?_push_size _ rfl,rfl,rfl⟩
theorem jU(U:lA b s.heap it q k)(hq:lu b s.heap q xs)(hx:xs[k]?=some x)(h:∀h',lA b h' it q (k+1)->Heap.SameBut it s.heap h'->Q x { s with heap:=h' }):
  wpAny (model prog w) A (Builtin.SmallTypes.nextOf (.ref it)) Q E s:=by cases b with
 |false=>exact wpAny_nextOf_list_item U hq hx h
 |true=>obtain⟨o,C,hc,hd⟩:=id U;obtain⟨oq,I,_,n,J⟩:=hq;have hT:s.TypeIs (.ref it) "tuple_iterator":=⟨o,C,hc⟩;refine wpAny_bind (wpAny_callSpecial?_slot (name:=Str.ofString "__next__") hT F.slot_tuple_iterator_next (wpAny_call_entry F.slot_tuple_iterator_next hT F.entry_tuple_iterator_next (?_:wpAny _ _ (field (.ref it) 0 >>= _) _ _ s) (F.args_tuple_iterator_next_1 _)));refine wpAny_bind (wpAny_field C hd (x:= .ref q) rfl (?_:wpAny _ _ (if(Value.ref q==Value.none)=true then _ else _) _ _ s));refine wpAny_bind (wpAny_field C hd (x:= .int k 0) rfl (?_:wpAny _ _ (seqItems? (.ref q) >>= _) _ _ s));refine wpAny_bind (wpAny_seqItems I J ?_);simp[hx];refine wpAny_bind (wpAny_setField C hd (by simp) (wpAny_pure ⟨x,rfl,wpAny_pure (h _ ⟨_,Heap.get?_update_self _ C (Obj.isFreed_of_fields (Obj.data_mapFields hd _)),(Obj.cls_mapFields ..).trans hc,?_⟩ (Heap.SameBut.update ..))⟩));rw[Obj.data_mapFields hd];rfl
theorem sx(hh:A.handled=none)(hi:lA b s.heap it q k)(hq:lu b s.heap q xs)(hx:xs[k]?=none)
  (h:∀h' e,(∀c o,c≠it->s.heap.get? c=some o->h'.get? c=some o)->(∃o,h'.get? e=some o/\o.cls= .type "StopIteration")->E (.ref e) { s with heap:=h' }):
  wpAny (model prog w) A (Builtin.SmallTypes.nextOf (.ref it)) Q E s:=by cases b with
 |false=>exact wpAny_nextOf_list_end hh hi hq hx h
 |true=>obtain⟨o,C,I,hd⟩:=id hi;obtain⟨oq,J,_,n,U⟩:=hq;have hT:s.TypeIs (.ref it) "tuple_iterator":=⟨o,C,I⟩;refine wpAny_bind (wpAny_callSpecial?_slot (name:=Str.ofString "__next__") hT F.slot_tuple_iterator_next (wpAny_call_entry F.slot_tuple_iterator_next hT F.entry_tuple_iterator_next (?_:wpAny _ _ (field (.ref it) 0 >>= _) _ _ s) (F.args_tuple_iterator_next_1 _)));refine wpAny_bind (wpAny_field C hd (x:= .ref q) rfl (?_:wpAny _ _ (if(Value.ref q==Value.none)=true then _ else _) _ _ s));refine wpAny_bind (wpAny_field C hd (x:= .int k 0) rfl (?_:wpAny _ _ (seqItems? (.ref q) >>= _) _ _ s));refine wpAny_bind (wpAny_seqItems J U ?_);simp[hx];refine wpAny_bind (wpAny_rule (wpAny_bind (wpAny_setField C hd (by simp) (?_:wpAny _ _ (newExc (.type "StopIteration") [] >>= _) _ _ _))));refine jZ (s:={ s with heap:=s.heap.update it _ }) (by omega) λ h' e kp he=>h h' e (λ c o I e'=>kp c o ?_) he;exact(Heap.get?_update_other _ _ (Ne.symm I)).trans e'
structure Hi (z TI TO i1 i2 l1 l2:Addr):Prop where
 ni:[z,TI,TO,i1,i2].Nodup
 n1:l1 ∉ [z,TO,i1,i2]
 n2:l2 ∉ [z,TO,i1,i2]
noncomputable abbrev Jm(b1 o:Bool)(z TI TO C I J U:Addr)(xs ys:Array Value)(k:Nat)(f:Value)(h:Heap):Prop:=
 IsZip h z TI TO f/\IsPair h TI (.ref C) (.ref I)/\(∃a c,IsPair h TO a c)/\lA b1 h C J k/\lA o h I U k/\lu b1 h J xs/\lu o h U ys
variable {b1 b2:Bool} {z TI TO i1 i2 l1 l2:Addr} {ys:Array Value}
theorem Hi.ne(D:Hi z TI TO i1 i2 l1 l2):TI≠z/\TO≠z/\i1≠z/\i2≠z/\TI≠TO/\TI≠i1/\TI≠i2/\TO≠i1/\TO≠i2/\i1≠i2/\l1≠z/\l1≠TO/\l1≠i1/\l1≠i2/\l2≠z/\l2≠TO/\l2≠i1/\l2≠i2:=by obtain⟨h,o,C⟩:=D;grind
theorem lq{j:Nat}{Q:Unit->Shared->Prop}(o:IsPair s.heap T a c)(h:∀h',h'.get? T=some { cls:= .type "tuple",data:= .seq ((#[a,c]:Array Value).setIfInBounds j v) }->Heap.SameBut T s.heap h'->Q () { s with heap:=h' }):
  wpAny (model prog w) A (updateSeq T (·.setIfInBounds j v)) Q E s:=wpAny_updateSeq_pair o h
theorem xF(D:Hi z TI TO i1 i2 l1 l2)(st:Jm b1 b2 z TI TO i1 i2 l1 l2 xs ys k .none s.heap)(hx:xs[k]?=some v1)(hy:ys[k]?=some v2)
  (hQ:∀h',Jm b1 b2 z TI TO i1 i2 l1 l2 xs ys (k+1) (rawInt s.heap.objs.size) h'->IsPair h' s.heap.objs.size v1 v2->(∀c o,c∉[z,TO,i1,i2]->s.heap.get? c=some o->h'.get? c=some o)->Q (some (.ref s.heap.objs.size)) { s with heap:=h' }):
  wpAny (model prog w) A (pyNext (.ref z)) Q E s:=by
 obtain⟨n1,n2,n3,n4,n5,n6,n7,n8,n9,U,m1,m2,m3,m4,m5,m6,m7,m8⟩:=D.ne;obtain⟨hz,aa,⟨a,c,ab⟩,q1,q2,p1,p2⟩:=st;have hT:s.TypeIs (.ref z) "zip":=⟨_,hz,rfl⟩;unfold pyNext;refine wpAny_bind (wpAny_attempt (wpAny_callSpecial?_slot (name:=Str.ofString "__next__") hT F.slot_zip_next (wpAny_call_entry F.slot_zip_next hT F.entry_zip_next (?_:wpAny _ _ (field (.ref z) 2 >>= _) _ _ _) (F.args_zip_next_1 _))));refine wpAny_bind (wpAny_field hz rfl (x:= .bool false) rfl (?_:wpAny _ _ (field (.ref z) 3 >>= _) _ _ _));refine wpAny_bind (wpAny_field hz rfl (x:= .ref TI) rfl (wpAny_bind (wpAny_seqItems aa rfl (?_:wpAny _ _ (Builtin.SmallTypes.ownedTupleIsFree (.ref z) >>= _) _ _ _))));refine wpAny_bind ?_;unfold Builtin.SmallTypes.ownedTupleIsFree;refine wpAny_bind (wpAny_field hz rfl (x:= .none) rfl (wpAny_pure ?_));simp only[if_true];refine wpAny_bind (wpAny_rule (wpAny_bind (wpAny_field hz rfl (x:= .ref TO) rfl ?_)));refine wpAny_bind (wpAny_setField_rec hz (by simp) λ h1 z1 s1=>?_);replace z1:IsZip h1 z TI TO .ellipsis:=z1;refine wpAny_bind ?_;simp only[List.zipIdx_cons,List.zipIdx_nil,List.forIn_cons,List.forIn_nil];refine wpAny_bind (wpAny_bind (wpAny_onRaise (?_:wpAny _ _ (Builtin.SmallTypes.nextOf (.ref i1) >>= _) _ _ _)));refine wpAny_bind (jU (s:={ s with heap:=h1 }) (q1.at λ o e=>s1.extBut _ _ n3 e) (p1.at λ o e=>s1.extBut _ _ m1 e) hx λ h2 ae s2=>wpAny_pure ?_);have t2:IsPair h2 TO a c:=s2.extBut _ _ n8 (s1.extBut _ _ n2 ab);refine wpAny_bind (wpAny_seqItems (s:={ s with heap:=h2 }) t2 rfl (wpAny_bind (lq (s:={ s with heap:=h2 }) t2 λ h3 t3 s3=>?_)));replace t3:IsPair h3 TO v1 c:=t3;refine wpAny_bind (wpAny_letGo (wpAny_pure ?_));refine wpAny_bind (wpAny_bind (wpAny_onRaise (?_:wpAny _ _ (Builtin.SmallTypes.nextOf (.ref i2) >>= _) _ _ _)));refine wpAny_bind (jU (s:={ s with heap:=h3 }) (q2.at λ o e=>s3.extBut _ _ n9.symm (s2.extBut _ _ U.symm (s1.extBut _ _ n4 e))) (p2.at λ o e=>s3.extBut _ _ m6 (s2.extBut _ _ m7 (s1.extBut _ _ m5 e))) hy λ h4 af s4=>wpAny_pure ?_);have t4:IsPair h4 TO v1 c:=s4.extBut _ _ n9 t3;refine wpAny_bind (wpAny_seqItems (s:={ s with heap:=h4 }) t4 rfl (wpAny_bind (lq (s:={ s with heap:=h4 }) t4 λ C t5 s5=>?_)));replace t5:IsPair C TO v1 v2:=t5;refine wpAny_bind (wpAny_letGo (wpAny_pure (wpAny_pure ?_)));refine wpAny_bind (wpAny_seqItems (s:={ s with heap:=C }) t5 rfl (wpAny_bind (wpAny_newTuple ?_)));have hsz:C.objs.size=s.heap.objs.size:=by rw[s5.1,s4.1,s3.1,s2.1,s1.1]
 have I:∀c o,c∉[z,TO,i1,i2]->s.heap.get? c=some o->C.get? c=some o:= λ c o hc e=>by simp only[List.mem_cons,List.not_mem_nil,or_false,not_or]at hc;obtain⟨c1,c2,c3,c4⟩:=hc;exact s5.extBut _ _ c2 (s4.extBut _ _ c4 (s3.extBut _ _ c2 (s2.extBut _ _ c3 (s1.extBut _ _ c1 e))))
 have z5:IsZip C z TI TO .ellipsis:=s5.extBut _ _ n2.symm (s4.extBut _ _ n4.symm (s3.extBut _ _ n2.symm (s2.extBut _ _ n3.symm z1)));refine(?_:wpAny _ _ (Builtin.SmallTypes.ownedTupleHandOut (.ref z) (.ref C.objs.size) >>= _) _ _ _);refine wpAny_bind ?_;unfold Builtin.SmallTypes.ownedTupleHandOut;have z6:IsZip (C.push { cls:= .type "tuple",data:= .seq #[v1,v2] }) z TI TO .ellipsis:=Heap.get?_push_of_some _ z5;refine wpAny_bind (wpAny_setField_rec (s:={ s with heap:=C.push { cls:= .type "tuple",data:= .seq #[v1,v2] } }) z6 (by simp) λ h7 z7 s7=>?_);replace z7:IsZip h7 z TI TO (rawInt C.objs.size):=z7;refine wpAny_setField_rec (s:={ s with heap:=h7 }) z7 (by simp) λ h8 z8 s8=>?_;replace z8:IsZip h8 z TI TO (rawInt C.objs.size):=z8;have up:∀c o,c ≠ z->C.get? c=some o->h8.get? c=some o:=λ c o c1 e=>s8.extBut _ _ c1 (s7.extBut _ _ c1 (Heap.get?_push_of_some _ e));have zl:z ≠ C.objs.size:=Nat.ne_of_lt (Heap.lt_size z5);have J:IsPair h8 C.objs.size v1 v2:=s8.extBut _ _ zl.symm (s7.extBut _ _ zl.symm (Heap.get?_push_size _ rfl));rw [hsz] at z8 J;refine wpAny_pure ⟨_,rfl,(?_:wpAny _ _ (pure (some (Value.ref C.objs.size))) _ _ _)⟩;rw [hsz];refine wpAny_pure (hQ h8 ⟨z8,up _ _ n1 (I TI _ (by simp [n1,n5,n6,n7]) aa),⟨_,_,up _ _ n2 t5⟩,ae.at λ o e=>up _ _ n3 (s5.extBut _ _ n8.symm (s4.extBut _ _ U (s3.extBut _ _ n8.symm e))),af.at λ o e=>up _ _ n4 (s5.extBut _ _ n9.symm e),
  p1.at λ o e=>up _ _ m1 (I l1 _ D.n1 e),p2.at λ o e=>up _ _ m5 (I l2 _ D.n2 e)⟩ J λ c o hc e=>up c o (λ z'=>hc (by rw [z'];simp)) (I c o hc e))
theorem Ba(hh:A.handled=none)(D:Hi z TI TO i1 i2 l1 l2)(st:Jm b1 b2 z TI TO i1 i2 l1 l2 xs ys k .none s.heap)(hx:xs[k]?=none\/ys[k]?=none)
  (hQ:∀h',(∀c o,c∉[z,TO,i1,i2]->s.heap.get? c=some o->h'.get? c=some o)->Q none { s with heap:=h' }):wpAny (model prog w) A (pyNext (.ref z)) Q E s:=by
 obtain⟨n1,n2,n3,n4,n5,n6,n7,n8,n9,ab,m1,m2,m3,m4,m5,m6,m7,m8⟩:=D.ne;obtain⟨hz,ae,⟨a,c,af⟩,q1,q2,p1,p2⟩:=st;have hT:s.TypeIs (.ref z) "zip":=⟨_,hz,rfl⟩;have fin:∀(h:Heap)(e:Addr),IsZip h z TI TO .ellipsis->(∀c o,c∉[z,TO,i1,i2]->s.heap.get? c=some o->h.get? c=some o)->(∃o,h.get? e=some o/\o.cls= .type "StopIteration")->
   wpAny (model prog w) A.in1 (setField (.ref z) 0 .none) (λ _ s'=>wpAny (model prog w) A (do if<- isInstance (Value.ref e) (.type "StopIteration")then pure (none:Option Value)else throw (Value.ref e)) Q E s') (λ _ _=>False) { s with heap:=h }:= λ h e hz kp he=>by
  obtain⟨o,ho,C⟩:=he;refine wpAny_setField_rec (s:={ s with heap:=h }) hz (by simp) λ h' _ sb=>?_;have ag:e≠z:= λ x=>by subst x;rw[hz]at ho;cases ho;simp at C
  refine wpAny_bind (wpAny_isInstance (T:="StopIteration") (b:=true) ⟨o,sb.extBut _ _ ag ho,C⟩ isSubtype_stop (wpAny_pure (hQ h' λ c o C e=>sb.extBut _ _ (λ z'=>C (by rw[z'];simp)) (kp c o C e))))
 unfold pyNext;refine wpAny_bind (wpAny_attempt (wpAny_callSpecial?_slot (name:=Str.ofString "__next__") hT F.slot_zip_next (wpAny_call_entry F.slot_zip_next hT F.entry_zip_next (?_:wpAny _ _ (field (.ref z) 2 >>= _) _ _ _) (F.args_zip_next_1 _))));refine wpAny_bind (wpAny_field hz rfl (x:= .bool false) rfl (?_:wpAny _ _ (field (.ref z) 3 >>= _) _ _ _));refine wpAny_bind (wpAny_field hz rfl (x:= .ref TI) rfl (wpAny_bind (wpAny_seqItems ae rfl (?_:wpAny _ _ (Builtin.SmallTypes.ownedTupleIsFree (.ref z) >>= _) _ _ _))));refine wpAny_bind ?_;unfold Builtin.SmallTypes.ownedTupleIsFree;refine wpAny_bind (wpAny_field hz rfl (x:= .none) rfl (wpAny_pure ?_));simp only[if_true];refine wpAny_bind (wpAny_rule (wpAny_bind (wpAny_field hz rfl (x:= .ref TO) rfl ?_)));refine wpAny_bind (wpAny_setField_rec hz (by simp) λ U z1 s1=> ?_);replace z1:IsZip U z TI TO .ellipsis:=z1;refine wpAny_bind ?_;simp only [List.zipIdx_cons,List.zipIdx_nil,List.forIn_cons,List.forIn_nil];refine wpAny_bind (wpAny_bind (wpAny_onRaise (?_:wpAny _ _ (Builtin.SmallTypes.nextOf (.ref i1) >>= _) _ _ _)));have aa:lu b1 U l1 xs:=p1.at λ o e=>s1.extBut _ _ m1 e;have I:lA b1 U i1 l1 k:=q1.at λ o e=>s1.extBut _ _ n3 e;cases J:xs[k]? with
 | none =>refine wpAny_bind (sx (s:={ s with heap:=U }) (by simpa using hh) I aa J λ h2 e kp he=>?_);refine wpAny_mono (fin h2 e (kp _ _ n3.symm z1) (λ c o C e'=>?_) he) (λ _ _ q=>q) λ _ _ q=>q.elim;simp only [List.mem_cons,List.not_mem_nil,or_false,not_or] at C;exact kp _ _ C.2.2.1 (s1.extBut _ _ C.1 e')
 | some v1=>
  have hy:ys[k]? = none:= by
   rcases hx with h | h
   .rw [J] at h;cases h
   .exact h
  refine wpAny_bind (jU (s:={ s with heap:=U }) I aa J λ h2 ah s2=>wpAny_pure ?_);have t2:IsPair h2 TO a c:=s2.extBut _ _ n8 (s1.extBut _ _ n2 af);refine wpAny_bind (wpAny_seqItems (s:={ s with heap:=h2 }) t2 rfl (wpAny_bind (lq (s:={ s with heap:=h2 }) t2 λ h3 t3 s3=>?_)));refine wpAny_bind (wpAny_letGo (wpAny_pure ?_));refine wpAny_bind (wpAny_bind (wpAny_onRaise (?_:wpAny _ _ (Builtin.SmallTypes.nextOf (.ref i2) >>= _) _ _ _)));refine wpAny_bind (sx (s:={ s with heap:=h3 }) (by simpa using hh) (q2.at λ o e=>s3.extBut _ _ n9.symm (s2.extBut _ _ ab.symm (s1.extBut _ _ n4 e))) (p2.at λ o e=>s3.extBut _ _ m6 (s2.extBut _ _ m7 (s1.extBut _ _ m5 e))) hy λ h4 e kp he=>?_);refine wpAny_mono (fin h4 e (kp _ _ n4.symm (s3.extBut _ _ n2.symm (s2.extBut _ _ n3.symm z1))) (λ c o C e'=>?_) he) (λ _ _ q=>q) λ _ _ q=>q.elim;simp only [List.mem_cons,List.not_mem_nil,or_false,not_or] at C;exact kp _ _ C.2.2.2 (s3.extBut _ _ C.2.1 (s2.extBut _ _ C.2.2.1 (s1.extBut _ _ C.1 e')))
end
section
variable {prog:Program} {w:World} {A:Around} {E:Value->Shared->Prop} {s:Shared} {b1 b2 b:Bool} {l1 l2 q it e:Addr} {xs ys:Array Value} {k:Nat}
noncomputable def xi(b1 b2:Bool)(h:Heap)(l1 l2:Addr):Heap:=(h.push (eG b1 l1)).push (eG b2 l2)
noncomputable def GZ(b1 b2:Bool)(h:Heap)(l1 l2:Addr):Heap:=((xi b1 b2 h l1 l2).push { cls:= .type "tuple",data:= .seq #[.ref h.objs.size,.ref (h.push (eG b1 l1)).objs.size] }).push { cls:= .type "tuple",data:= .seq #[.none,.none] }
noncomputable def Ez(b1 b2:Bool)(h:Heap)(l1 l2:Addr):Heap:=(GZ b1 b2 h l1 l2).push { cls:= .type "zip",data:= .fields #[.none,.bool false,.bool false,.ref (xi b1 b2 h l1 l2).objs.size,.ref ((xi b1 b2 h l1 l2).push { cls:= .type "tuple",data:= .seq #[.ref h.objs.size,.ref (h.push (eG b1 l1)).objs.size] }).objs.size] }
theorem vv(b1 b2:Bool)(l1 l2:Addr)(xs ys:Array Value):Meets (Builtin.«zip.__new__» ⟨[.type "zip",.ref l1,.ref l2],[]⟩) (λ _ R s=>lu b1 s.heap l1 xs/\lu b2 s.heap l2 ys/\R (.ok (.ret (.ref (GZ b1 b2 s.heap l1 l2).objs.size))) { s with heap:=Ez b1 b2 s.heap l1 l2 }):=
 .of_wp λ prog w A R s h=>by obtain⟨C,g,d,tk,os⟩:=s;obtain⟨J,U,h⟩:=h;have I:=sub_zip;have L1:lu b1 (Shared.heap ⟨C,g,d,tk,os⟩) l1 xs:=J;have L2:lu b2 (Shared.heap ⟨C.push (eG b1 l1),g,d,tk,os⟩) l2 ys:=U.at λ o e=>Heap.get?_push_of_some _ e;wp_walk using iJ L1,iJ L2;exact⟨_,rfl,h⟩
theorem Cc(h1:lu b1 s.heap l1 xs)(h2:lu b2 s.heap l2 ys)
  (h:∀h' z TI TO i1 i2,Hi z TI TO i1 i2 l1 l2->Jm b1 b2 z TI TO i1 i2 l1 l2 xs ys 0 .none h'->(∀c o,s.heap.get? c=some o->h'.get? c=some o)->(∀c∈[z,TI,TO,i1,i2],s.heap.objs.size<=c)->Q (.ref z) { s with heap:=h' }):
  wpAny (model prog w) A (call (.type "zip") [.ref l1,.ref l2]) Q E s:=by
 refine callType_new F.called_zip (by decide) (F.typeCall_zip_2 _ _) (F.newCall_zip_2 _ _) (λ obj=>F.args_object_init_3 obj _ _) F.entry_zip_new (vv b1 b2 l1 l2 xs ys) ⟨h1,h2,?_⟩;have a1:(s.heap.push (eG b1 l1)).objs.size=s.heap.objs.size+1:=Heap.size_push ..;have a2:(xi b1 b2 s.heap l1 l2).objs.size=s.heap.objs.size+2:=by unfold xi;rw[Heap.size_push,a1]
 have a3:((xi b1 b2 s.heap l1 l2).push { cls:= .type "tuple",data:= .seq #[.ref s.heap.objs.size,.ref (s.heap.push (eG b1 l1)).objs.size] }).objs.size=s.heap.objs.size+3:=by rw[Heap.size_push,a2]
 have a4:(GZ b1 b2 s.heap l1 l2).objs.size=s.heap.objs.size+4:=by unfold GZ;rw[Heap.size_push,a3]
 have I:∀c o,(GZ b1 b2 s.heap l1 l2).get? c=some o->(Ez b1 b2 s.heap l1 l2).get? c=some o:= λ c o e=>Heap.get?_push_of_some _ e;have up2:∀c o,(xi b1 b2 s.heap l1 l2).get? c=some o->(Ez b1 b2 s.heap l1 l2).get? c=some o:= λ c o e=>I c o (Heap.get?_push_of_some _ (Heap.get?_push_of_some _ e));have up:∀c o,s.heap.get? c=some o->(Ez b1 b2 s.heap l1 l2).get? c=some o:= λ c o e=>up2 c o (Heap.get?_push_of_some _ (Heap.get?_push_of_some _ e));have g5:(Ez b1 b2 s.heap l1 l2).get? (GZ b1 b2 s.heap l1 l2).objs.size=some _:=Heap.get?_push_size _ rfl;have g4:(Ez b1 b2 s.heap l1 l2).get? ((xi b1 b2 s.heap l1 l2).push { cls:= .type "tuple",data:= .seq #[.ref s.heap.objs.size,.ref (s.heap.push (eG b1 l1)).objs.size] }).objs.size=some _:=I _ _ (Heap.get?_push_size _ rfl);have g3:(Ez b1 b2 s.heap l1 l2).get? (xi b1 b2 s.heap l1 l2).objs.size=some _:=I _ _ (Heap.get?_push_of_some _ (Heap.get?_push_size _ rfl));have J:=h1.lt;have U:=h2.lt;refine⟨⟨_,g5,rfl⟩,h (Ez b1 b2 s.heap l1 l2) _ (xi b1 b2 s.heap l1 l2).objs.size ((xi b1 b2 s.heap l1 l2).push { cls:= .type "tuple",data:= .seq #[.ref s.heap.objs.size,.ref (s.heap.push (eG b1 l1)).objs.size] }).objs.size s.heap.objs.size (s.heap.push (eG b1 l1)).objs.size ?_
  ⟨g5,g3,⟨_,_,g4⟩,lA.new.at λ o e=>up2 _ _ (Heap.get?_push_of_some _ e),lA.new.at λ o e=>up2 _ _ e,h1.at λ o e=>up _ _ e,h2.at λ o e=>up _ _ e⟩ up λ c hc=>?_⟩
 .rw[a3,a4,a2,a1];have e1:∀j:Nat,l1≠s.heap.objs.size+j:= λ j z=>Nat.ne_of_lt (Nat.lt_of_lt_of_le J (Nat.le_add_right _ j)) z;have e2:∀j:Nat,l2≠s.heap.objs.size+j:= λ j z=>Nat.ne_of_lt (Nat.lt_of_lt_of_le U (Nat.le_add_right _ j)) z;have ne:∀i j:Nat,i≠j->s.heap.objs.size+i≠s.heap.objs.size+j:= λ i j h z=>h (Nat.add_left_cancel z);have C:∀j:Nat,j≠0->s.heap.objs.size+j≠s.heap.objs.size:= λ j h z=>h (Nat.add_left_cancel (m:=j) (k:=0) z);refine⟨?_,?_,?_⟩;. simp only[List.nodup_cons,List.mem_cons,List.not_mem_nil,or_false,not_or,List.nodup_nil,and_true,not_false_eq_true];exact⟨⟨ne 4 2 (by decide),ne 4 3 (by decide),C 4 (by decide),ne 4 1 (by decide)⟩,⟨ne 2 3 (by decide),C 2 (by decide),ne 2 1 (by decide)⟩,⟨C 3 (by decide),ne 3 1 (by decide)⟩,(C 1 (by decide)).symm⟩
  .simp only[List.mem_cons,List.not_mem_nil,or_false,not_or];exact⟨e1 4,e1 3,Nat.ne_of_lt J,e1 1⟩
  .simp only[List.mem_cons,List.not_mem_nil,or_false,not_or];exact⟨e2 4,e2 3,Nat.ne_of_lt U,e2 1⟩
 .rw[a3,a4,a2,a1]at hc;simp only[List.mem_cons,List.not_mem_nil,or_false]at hc;rcases hc with e|e|e|e|e
  .rw[e];exact Nat.le_add_right _ 4
  .rw[e];exact Nat.le_add_right _ 2
  .rw[e];exact Nat.le_add_right _ 3
  .rw[e];exact Nat.le_refl _
  .rw[e];exact Nat.le_add_right _ 1
theorem sD(b:Bool)(l:Addr)(xs:Array Value):Meets (Builtin.«enumerate.__new__» ⟨[.type "enumerate",.ref l],[]⟩) (λ _ R s=>lu b s.heap l xs/\R (.ok (.ret (.ref (s.heap.push (eG b l)).objs.size)))
  { s with heap:=(s.heap.push (eG b l)).push { cls:= .type "enumerate",data:= .fields #[.none,.bool false,.ref s.heap.objs.size,rawInt 0,.none,.none] } }):=
 .of_wp λ prog w A R s h=>by
  obtain⟨I,g,d,tk,os⟩:=s;obtain⟨J,h⟩:=h;have C:=sub_enumerate;have o:lu b (Shared.heap ⟨I,g,d,tk,os⟩) l xs:=J;wp_walk;refine wpAny_stack_any λ st=>wpAny_pure ?_;split
  .rename_i c _ _ _ _ _;cases(c==Value.type "enumerate")
   .wp_walk using iJ o;exact⟨_,rfl,h⟩
   .wp_walk using iJ o;exact⟨_,rfl,h⟩
  .wp_walk using iJ o;exact⟨_,rfl,h⟩
noncomputable abbrev JN(b:Bool)(e it l:Addr)(xs:Array Value)(k:Nat)(h:Heap):Prop:=(∃old,IsEnum h e it k old)/\lA b h it l k/\lu b h l xs
theorem yu(I:lu b s.heap q xs)
  (h:∀h' e it,e≠it->q≠e->q≠it->JN b e it q xs 0 h'->(∀c o,s.heap.get? c=some o->h'.get? c=some o)->s.heap.objs.size<=e->s.heap.objs.size<=it->Q (.ref e) { s with heap:=h' }):
  wpAny (model prog w) A (call (.type "enumerate") [.ref q]) Q E s:=by
 refine callType_new F.called_enumerate (by decide) (F.typeCall_enumerate_1 _) (F.newCall_enumerate_1 _) (λ obj=>F.args_object_init_2 obj _) F.entry_enumerate_new (sD b q xs) ⟨I,?_⟩;have a1:(s.heap.push (eG b q)).objs.size=s.heap.objs.size+1:=Heap.size_push ..;have C:=I.lt;refine⟨⟨_,Heap.get?_push_size _ rfl,rfl⟩,h _ _ s.heap.objs.size (λ z=>?_) (λ z=>?_) (Nat.ne_of_lt C) ⟨⟨.none,Heap.get?_push_size _ rfl⟩,lA.new.at λ o e=>Heap.get?_push_of_some _ e,I.at λ o e=>Heap.get?_push_of_some _ (Heap.get?_push_of_some _ e)⟩ (λ c o e=>Heap.get?_push_of_some _ (Heap.get?_push_of_some _ e)) ?_ (Nat.le_refl _)⟩;. rw[a1]at z;exact Nat.succ_ne_self _ z
 .rw[a1]at z;exact Nat.ne_of_lt (Nat.lt_succ_of_lt C) z
 simp
theorem vJ(aa:e≠it)(ae:q≠e)(af:q≠it)(st:JN b e it q xs k s.heap)(hx:xs[k]?=some v)
  (hQ:∀h',IsEnumOut h' e it (k+1) v s.heap.objs.size->lA b h' it q (k+1)->lu b h' q xs->IsPair h' s.heap.objs.size (.int k s.toks) v->(∀c o,c≠e->c≠it->s.heap.get? c=some o->h'.get? c=some o)->Q (some (.ref s.heap.objs.size)) { s with heap:=h',toks:=s.toks+1 }):
  wpAny (model prog w) A (pyNext (.ref e)) Q E s:=by
 obtain⟨⟨old,he⟩,hi,hq⟩:=st;have hT:s.TypeIs (.ref e) "enumerate":=⟨_,he,rfl⟩;have ag:e<s.heap.objs.size:=Heap.lt_size he;refine wpAny_bind (wpAny_attempt (wpAny_callSpecial?_slot (name:=Str.ofString "__next__") hT F.slot_enumerate_next (wpAny_call_entry F.slot_enumerate_next hT F.entry_enumerate_next (?_:wpAny _ _ (field (.ref e) 2 >>= _) _ _ _) (F.args_enumerate_next_1 _))));obtain⟨hp,g,d,tk,os⟩:=s;refine wpAny_bind (wpAny_field he rfl (x:= .ref it) rfl (wpAny_bind (jU hi hq hx λ I ah s1=>?_)));have e1:IsEnum I e it k old:=(s1.2 e aa).trans he;refine wpAny_bind (wpAny_field (s:=⟨I,g,d,tk,os⟩) e1 rfl (x:=rawInt k) rfl (?_:wpAny _ _ (field (.ref e) 4 >>= _) _ _ ⟨I,g,d,tk,os⟩));refine wpAny_bind (wpAny_field (s:=⟨I,g,d,tk,os⟩) e1 rfl (x:= .none) rfl (?_:wpAny _ _ (mkInt k >>= _) _ _ ⟨I,g,d,tk,os⟩));refine wpAny_bind (wpAny_mkInt (?_:wpAny _ _ (setField (.ref e) 3 (rawInt (k+1)) >>= _) _ _ ⟨I,g,d,tk+1,os⟩));refine wpAny_bind (wpAny_setField_rec (s:=⟨I,g,d,tk+1,os⟩) e1 (by simp) λ h2 e2 s2=>(?_:wpAny _ _ (setField (.ref e) 4 .none >>= _) _ _ ⟨h2,g,d,tk+1,os⟩));refine wpAny_bind (wpAny_setField_rec (s:=⟨h2,g,d,tk+1,os⟩) e2 (by simp) λ U e3 s3=>(?_:wpAny _ _ (newTuple [.int k tk,v] >>= _) _ _ ⟨U,g,d,tk+1,os⟩));refine wpAny_bind (wpAny_newTuple ?_);have hsz:U.objs.size=hp.objs.size:=by rw[s3.1,s2.1,s1.1]
 have e4:IsEnum (U.push { cls:= .type "tuple",data:= .seq #[.int k tk,v] }) e it (k+1) old:=Heap.get?_push_of_some _ e3;have t4:IsPair (U.push { cls:= .type "tuple",data:= .seq #[.int k tk,v] }) hp.objs.size (.int k tk) v:=by rw[<- hsz];exact Heap.get?_push_size _ rfl
 have ab:∀c o,c≠e->I.get? c=some o->(U.push { cls:= .type "tuple",data:= .seq #[.int k tk,v] }).get? c=some o:= λ c o J x=>Heap.get?_push_of_some _ (s3.extBut c o J (s2.extBut c o J x));rw[hsz];generalize U.push { cls:= .type "tuple",data:= .seq #[.int k tk,v] }=h4 at e4 t4 ab;refine wpAny_bind ?_;refine wpAny_bind (wpAny_field (s:=⟨h4,g,d,tk+1,os⟩) e4 rfl (x:= .none) rfl (wpAny_pure ?_));refine wpAny_bind (wpAny_rule (wpAny_bind (wpAny_field (s:=⟨h4,g,d,tk + 1,os⟩) e4 rfl (x:=old) rfl ?_)));refine wpAny_bind (wpAny_setField_rec (s:=⟨h4,g,d,tk + 1,os⟩) e4 (by simp) λ h5 e5 s5=>(?_:wpAny _ _ (Builtin.SmallTypes.ownedTupleHandOut (.ref e) (.ref hp.objs.size) >>= _) _ _ ⟨h5,g,d,tk + 1,os⟩));replace e5:IsEnum h5 e it (k + 1) v:=e5;refine wpAny_bind ?_;refine wpAny_bind (wpAny_setField_rec (s:=⟨h5,g,d,tk + 1,os⟩) e5 (by simp) λ h6 e6 s6=>?_);refine wpAny_setField_rec (s:=⟨h6,g,d,tk + 1,os⟩) e6 (by simp) λ h7 e7 s7=>?_;have up:∀c o,c ≠ e->I.get? c=some o->h7.get? c=some o:=λ c o J x=>s7.extBut c o J (s6.extBut c o J (s5.extBut c o J (ab c o J x)));have C:hp.objs.size ≠ e:=Nat.ne_of_gt ag;exact wpAny_bind (wpAny_letGo (wpAny_pure ⟨_,rfl,wpAny_pure (hQ h7 e7 (ah.at λ o x=>up _ _ aa.symm x) (hq.at λ o x=>up _ _ ae (s1.extBut _ _ af x)) (s7.extBut _ _ C (s6.extBut _ _ C (s5.extBut _ _ C t4))) λ c o c1 c2 x=>up c o c1 (s1.extBut _ _ c2 x))⟩))
theorem yy(hh:A.handled=none)(st:JN b e it q xs k s.heap)(hx:xs[k]?=none)(J:∀h',(∀c o,c≠it->s.heap.get? c=some o->h'.get? c=some o)->Q none { s with heap:=h' }):wpAny (model prog w) A (pyNext (.ref e)) Q E s:=by obtain⟨⟨old,he⟩,U,hq⟩:=st;have I:s.TypeIs (.ref e) "enumerate":=⟨_,he,rfl⟩;refine wpAny_bind (wpAny_attempt (wpAny_callSpecial?_slot (name:=Str.ofString "__next__") I F.slot_enumerate_next (wpAny_call_entry F.slot_enumerate_next I F.entry_enumerate_next (?_:wpAny _ _ (field (.ref e) 2 >>= _) _ _ _) (F.args_enumerate_next_1 _))));refine wpAny_bind (wpAny_field he rfl (x:= .ref it) rfl (wpAny_bind (sx (by omega) U hq hx λ h' x kp C=>?_)));obtain⟨o,ho,hc⟩:=C;exact wpAny_bind (wpAny_isInstance (T:="StopIteration") (b:=true) ⟨o,ho,hc⟩ isSubtype_stop (wpAny_pure (J _ kp)))
end
end Jt
namespace L2
open PySem PySem.Spec PyProof.Rows
noncomputable abbrev Key:=Sum Int Str
noncomputable def mq:Key->Value->Bool
 | .inl k,v=>Value.isInt k v
 | .inr x,v=>Value.isStrOf x v
noncomputable def JZ(w:World):Key->Int
 | .inl k=>hashInt k
 | .inr x=>hashStr w x
theorem cn:∀{k:Key}{v:Value},mq k v=true->(∃i t,k=Sum.inl i/\v=Value.int i t)\/(∃x t,k=Sum.inr x/\v=Value.str x t)
 | .inl i,v,h=>by obtain⟨t,e⟩:=Value.isInt_shape (k:=i) (v:=v) h;grind
 | .inr x,v,h=>by obtain⟨t,e⟩:=Value.isStrOf_shape (x:=x) (v:=v) h;grind
theorem v9(i:Int)(t:Tok):mq (.inl i) (.int i t)=true:=by simp[mq,Value.isInt]
theorem uR(x:Str)(t:Tok):mq (.inr x) (.str x t)=true:=by simp[mq,Value.isStrOf]
theorem FP(a b:Int):decide ((Sum.inl a:Key)=Sum.inl b)=(a==b):=by grind
theorem E9(a b:Str):decide ((Sum.inr a:Key)=Sum.inr b)=decide (a=b):=by simp
theorem Fs(a:Int)(b:Str):decide ((Sum.inl a:Key)=Sum.inr b)=false:=decide_eq_false (λ q=>nomatch q)
theorem GN(a:Str)(b:Int):decide ((Sum.inr a:Key)=Sum.inl b)=false:=decide_eq_false (λ q=>nomatch q)
noncomputable def cm (prog:Program) (w:World):PySem.KeyKind prog w Key where
 is:=mq
 hash:=JZ w
 inj:=fun v a b ha hb=>by
  rcases cn ha with ⟨i,t,rfl,rfl⟩ | ⟨x,t,rfl,rfl⟩
  .rcases cn hb with ⟨j,u,rfl,e⟩ | ⟨y,u,rfl,e⟩
   .injection e with e1 _;rw [e1]
   .exact nomatch e
  .rcases cn hb with ⟨j,u,rfl,e⟩ | ⟨y,u,rfl,e⟩
   .exact nomatch e
   .injection e with e1 _;rw [e1]
 byValue:=fun k v h=>by
  rcases cn h with ⟨i,t,rfl,rfl⟩ | ⟨x,t,rfl,rfl⟩ <;> rfl
 pyHash:=fun hv h=>by
  rcases cn hv with ⟨i,t,rfl,rfl⟩ | ⟨x,t,rfl,rfl⟩
  .exact wpAny_pyHash_int h
  .exact wpAny_pyHash_str h
 eqBool:=fun hu hv h=>by
  rcases cn hu with ⟨i,t,rfl,rfl⟩ | ⟨x,t,rfl,rfl⟩
  .rcases cn hv with ⟨j,u,rfl,rfl⟩ | ⟨y,u,rfl,rfl⟩
   .rw [FP] at h;exact wpAny_eqBool_int h
   .rw [Fs] at h;exact SeqAt.EqAt.int_str i t y u _ _ _ _ h
  .rcases cn hv with ⟨j,u,rfl,rfl⟩ | ⟨y,u,rfl,rfl⟩
   .rw [GN] at h;exact SeqAt.EqAt.str_int x t j u _ _ _ _ h
   .rw [E9] at h;exact wpAny_eqBool_str h
 «strs»:=fun k x t v h=>by
  rcases cn h with ⟨i,u,rfl,e⟩ | ⟨y,u,rfl,e⟩
  .exact nomatch e
  .injection e with e1 _
   subst e1
   cases v <;> rfl
theorem qh(prog:Program)(w:World)(i:Int)(t:Tok):(cm prog w).is (.inl i) (.int i t)=true:=v9 i t
theorem oQ(prog:Program)(w:World)(x:Str)(t:Tok):(cm prog w).is (.inr x) (.str x t)=true:=uR x t
inductive V where
 | non | bl (b:Bool) | int (i:Int) | str (x:Str) | byt (b:Array UInt8) | flt (b:UInt64) | ref (a:Addr) | ty (n:String)
 deriving DecidableEq
noncomputable def RelV:V->Value->Prop
 | .non,u=>u=Value.none
 | .bl b,u=>u=Value.bool b
 | .int i,u=>∃t,u=Value.int i t
 | .str x,u=>∃t,u=Value.str x t
 | .byt b,u=>∃t,u=Value.bytes b t
 | .flt b,u=>∃t,u=Value.float b t
 | .ref a,u=>u=Value.ref a
 | .ty n,u=>u=Value.type n
noncomputable abbrev Vals:List V->List Value->Prop:=Paired RelV
theorem Vals.length(r:Vals xs us):xs.length=us.length:=Paired.length r
theorem Vals.get:∀{xs:List V}{us:List Value}{i:Nat}{x:V},Vals xs us->xs[i]?=some x->∃u,us[i]?=some u/\RelV x u
 |_,_,_,_,.nil,e=>by grind
 |_,_,0,_,.cons r _,e=>by simp_all
 |_,_,i+1,x,.cons _ t,e=>by obtain⟨u,o,C⟩:=Vals.get (i:=i) (x:=x) t (by simp_all);grind
theorem Vals.set(r:RelV x u):∀{xs:List V}{us:List Value}(i:Nat),Vals xs us->Vals (xs.set i x) (us.set i u)
 |_,_,_,.nil=> .nil
 |_,_,0,.cons _ t=> .cons r t
 |_,_,i+1,.cons q t=> .cons q (Vals.set r i t)
theorem Vals.append:∀{xs ys:List V}{us ws:List Value},Vals xs us->Vals ys ws->Vals (xs++ys) (us++ws)
 |_,_,_,_,.nil,s=>s
 |_,_,_,_,.cons r t,s=> .cons r (Vals.append t s)
theorem Vals.take:∀{xs:List V}{us:List Value}(n:Nat),Vals xs us->Vals (xs.take n) (us.take n)
 |_,_,0,_=> .nil
 |_,_,_+1,.nil=> .nil
 |_,_,n+1,.cons r t=> .cons r (Vals.take n t)
theorem Vals.drop:∀{xs:List V}{us:List Value}(n:Nat),Vals xs us->Vals (xs.drop n) (us.drop n)
 |_,_,0,r=>r
 |_,_,_+1,.nil=> .nil
 |_,_,n+1,.cons _ t=>Vals.drop n t
noncomputable def RelO:Option V->Option Value->Prop
 |some v,some u=>RelV v u
 |none,none=>True
 |_,_=>False
noncomputable def KV{o:Type}:List (o×V)->List (o×Value)->Prop:=Paired λ(p:o×V) (q:o×Value)=>p.1=q.1/\RelV p.2 q.2
noncomputable def kV:Key->V
 | .inl i=> .int i
 | .inr x=> .str x
inductive HO where
  | lst (xs:List V)
  | tup (xs:List V)
  | dK (kvs:List (Key × V)) | dT (kvs:List (List Key × V))
  | set (S:Int->Bool) (n:Nat)
  | ins (C dx:Addr) (fs:List (Str × V))
  | own (x:Addr)
  | xd (fs:List (Str × V))
  | met (f x:Addr)
  | rng (lo hi:Int)
  | frz (o:Obj) (u:HO)
  | tbl (ps:Array Value)
  | ext (φ:Heap->Prop)
noncomputable abbrev Hp:=Addr->Option HO
noncomputable def upd(H:Hp)(a:Addr)(o:HO):Hp:= λ b=>if b=a then some o else H b
theorem bf:upd H a o a=some o:=by unfold upd;simp
theorem aZ{a b:Addr}{o:HO}(h:b≠a):upd H a o b=H b:=by unfold upd;grind
theorem t_:upd (upd H a o) a u=upd H a u:=by unfold upd;grind
theorem IE{H:Hp}{a b:Addr}{o u:HO}(h:H a=some o)(h':H b=some u)(d:o≠u):a≠b:=by grind
theorem bP{H:Hp}{a b:Addr}{o:HO}(h:H a=some o)(h':H b=none):a≠b:=by grind
noncomputable def q_(h:Heap)(a:Addr)(items:Array Value):Prop:=IsTup h a items/\∃o,h.get? a=some o/\o.dict=none
theorem q_.new(h:Heap)(items:Array Value):q_ (h.push { cls:= .type "tuple",data:= .seq items }) h.objs.size items:=⟨IsTup.new _ _,_,Heap.get?_push_size _ rfl,rfl⟩
section
variable (P:Program) (w:World)
noncomputable def cu(H:Hp)(h:Heap)(a:Addr):HO->Prop
 | .lst xs=>xs.length<=sizeLine/\∃(its:List Value) (n:Nat),Vals xs its/\h.get? a=some { cls:= .type "list",data:= .seq its.toArray n }
 | .tup xs=>xs.length<=sizeLine/\∃its:List Value,Vals xs its/\q_ h a its.toArray
 | .dK kvs=>kvs.length<=sizeLine/\(a==sysModules)=false/\∃vs,KV kvs vs/\h.DictOf (cm P w) a vs
 | .dT kvs=>kvs.length<=sizeLine/\(a==sysModules)=false/\∃xs:List (List Key×Addr×Value),
   Paired (λ(p:List Key×V) (q:List Key×Addr×Value)=>p.1=q.1/\H q.2.1=some (.tup (p.1.map kV))/\RelV p.2 q.2.2) kvs xs/\
   ∃o es ep,h.get? a=some o/\o.ExactDict/\o.data= .dict es ep/\es.toList=xs.map (entryOfKey (tupleKind (cm P w)))/\(xs.map (·.1)).Nodup/\ep=es.size
 | .set S n=>h.SetOf (intKind P w) a S n
 | .ins C J fs=>H J=some (.own a)/\fs.length<=1000/\J≠a/\h.get? a=some (PySem.W.instObj C J)/\
   ∃I,h.Ns1 J I/\(∀f,RelO (fs.lookup f) (I f))/\PySem.Within I (fs.map (·.1))
 | .own _=>∃o,h.get? a=some o
 | .xd fs=>∃I,h.Ns1 a I/\∀f,RelO (fs.lookup f) (I f)
 | .rng lo hi=>∃t u v,h.get? a=some { cls:= .type "range",data:= .fields #[.int lo t,.int hi u,.int 1 v] }
 | .frz o u=>h.get? a=some o/\cu H h a u
 | .tbl qs=>∃ps:Array Value,h.get? a=some { cls:= .none,data:= .fields ps }/\TriplesOk ps.toList/\∀(q:Str)(t0:Tok)(pos:Pos)(cv:Value),qs[0]?=some (.str q t0)->codeAmong pos ps.toList=some cv->
   ∃c' oc u vs t,cv= .ref c'/\H c'=some (.frz oc u)/\oc.data= .fields vs/\vs[1]?=some (.str q t)
 | .met f x=>h.get? a=some (PySem.W.methodObj (.ref f) (.ref x))
 | .ext U=>U h/\(∃o,h.get? a=some o)/\∀h1 h2:Heap,U h1->(∀o,h1.get? a=some o->h2.get? a=some o)->U h2
noncomputable def gU(H:Hp)(h:Heap):Prop:=∀a o,H a=some o->cu P w H h a o
end
section
variable {P:Program} {w:World} {H H':Hp} {h h':Heap} {a:Addr} {o:HO}
theorem cu.lt(x:cu P w H h a o):a<h.objs.size:=by cases o with
 |lst xs=>obtain⟨_,_,_,_,e⟩:=x;exact Heap.lt_size e
 |tup xs=>obtain⟨_,_,_,p⟩:=x;exact p.1.lt
 |dK kvs=>obtain⟨_,_,_,_,o,_,_,e,_⟩:=x;exact Heap.lt_size e
 |dT kvs=>obtain⟨_,_,_,_,o,_,_,e,_⟩:=x;exact Heap.lt_size e
 |set S n=>obtain⟨o,_,_,_,e,_⟩:=x;exact Heap.lt_size e
 |ins C dx fs=>obtain⟨_,_,_,e,_⟩:=x;exact Heap.lt_size e
 |own y=>obtain⟨_,e⟩:=x;exact Heap.lt_size e
 |xd fs=>obtain⟨_,⟨_,_,_,e,_⟩,_⟩:=x;exact Heap.lt_size e
 |rng lo hi=>obtain⟨_,_,_,e⟩:=x;exact Heap.lt_size e
 |frz ob u=>obtain⟨e,_⟩:=x;exact Heap.lt_size e
 |tbl ps=>obtain⟨_,e,_⟩:=x;exact Heap.lt_size e
 |met f y=>exact Heap.lt_size (show h.get? a=some _ from x)
 |ext φ=>obtain⟨_,⟨_,e⟩,_⟩:=x;exact Heap.lt_size e
theorem Paired.mapP:∀{C:List α}{I:List β},Paired F C I->(∀a b,F a b->G a b)->Paired G C I
 |_,_,.nil,_=> .nil
 |_,_,.cons r t,f=> .cons (f _ _ r) (Paired.mapP t f)
theorem cu.stay(x:cu P w H h a o)(k:∀b u,(b=a\/H b=some (.own a))->h.get? b=some u->h'.get? b=some u)
  (ho:∀b,H b=some (.own a)->H' b=some (.own a))(ht:∀b xs,H b=some (.tup xs)->H' b=some (.tup xs))(hf:∀b o u,H b=some (.frz o u)->H' b=some (.frz o u):=by exact fun _ _ _ h=>h):cu P w H' h' a o:=by induction o with
 |lst xs=>obtain⟨z,its,n,r,e⟩:=x;exact⟨z,its,n,r,k _ _ (.inl rfl) e⟩
 |tup xs=>obtain⟨z,its,r,⟨I,e,c⟩,U,e2,d⟩:=x;exact⟨z,its,r,⟨I,k _ _ (.inl rfl) e,c⟩,U,k _ _ (.inl rfl) e2,d⟩
 |dK kvs=>obtain⟨z,y,vs,r,I,es,J,e,c⟩:=x;exact⟨z,y,vs,r,I,es,J,k _ _ (.inl rfl) e,c⟩
 |dT kvs=>obtain⟨z,y,xs,r,I,es,J,e,c⟩:=x;exact⟨z,y,xs,Paired.mapP r λ p q z=>⟨z.1,ht _ _ z.2.1,z.2.2⟩,I,es,J,k _ _ (.inl rfl) e,c⟩
 |set S n=>obtain⟨I,es,J,t,e,c⟩:=x;exact⟨I,es,J,t,k _ _ (.inl rfl) e,c⟩
 |ins C dx fs=>obtain⟨d,z,ne,e,mA,⟨od,es,J,e2,c⟩,r⟩:=x;exact⟨ho _ d,z,ne,k _ _ (.inl rfl) e,mA,⟨od,es,J,k _ _ (.inr d) e2,c⟩,r⟩
 |own y=>obtain⟨I,e⟩:=x;exact⟨I,k _ _ (.inl rfl) e⟩
 |xd fs=>obtain⟨mA,⟨od,es,J,e,c⟩,r⟩:=x;exact⟨mA,⟨od,es,J,k _ _ (.inl rfl) e,c⟩,r⟩
 |rng lo hi=>obtain⟨t,u,v,e⟩:=x;exact⟨t,u,v,k _ _ (.inl rfl) e⟩
 |frz I u ih=>obtain⟨e,q⟩:=x;exact⟨k _ _ (.inl rfl) e,ih q⟩
 |tbl ps=>obtain⟨qs,e,tr,c⟩:=x;refine⟨qs,k a _ (.inl rfl) e,tr,λ q t0 pos cv h1 h2=>?_⟩;grind
 |met f y=>have e:h.get? a=some (PySem.W.methodObj (.ref f) (.ref y)):=x;show h'.get? a=some (PySem.W.methodObj (.ref f) (.ref y));grind
 |ext φ=>obtain⟨p,⟨o,e⟩,st⟩:=x;exact⟨st _ _ p λ o q=>k _ _ (.inl rfl) q,⟨o,k _ _ (.inl rfl) e⟩,st⟩
theorem gU.lt(x:gU P w H h)(e:H a=some o):a<h.objs.size:=(x a o e).lt
theorem gU.fresh(x:gU P w H h)(e:h.objs.size<=a):H a=none:=by cases q:H a with
 |none=>rfl
 |some u=>exact absurd (Nat.lt_of_lt_of_le (x.lt q) e) (Nat.lt_irrefl _)
theorem gU.kept(x:gU P w H h)(k:∀b u,h.get? b=some u->h'.get? b=some u):gU P w H h':= λ a o e=>
 (x a o e).stay (λ b u _ q=>k b u q) (λ _ q=>q) λ _ _ q=>q
theorem gU.laid(x:gU P w H h)(k:∀b u,h.get? b=some u->h'.get? b=some u)(J:h.objs.size<=a)(new:cu P w (upd H a o) h' a o):gU P w (upd H a o) h':= λ b u e=>by
 have C:=x.fresh J;by_cases I:b=a;. subst I;rw[bf]at e;simp_all
 .rw[aZ I]at e;exact(x b u e).stay (λ c v _ q=>k c v q) (λ c q=>by rw[aZ (bP q C)];exact q) (λ c xs q=>by rw[aZ (bP q C)];exact q) λ c U u q=>by rw[aZ (bP q C)];exact q
end
noncomputable def Rd(H:Hp)(a:Addr)(u:HO):Prop:=H a=some u\/ ∃o,H a=some (.frz o u)
theorem Rd.ok{H:Hp}{h:Heap}{a:Addr}{u:HO}(r:Rd H a u)(x:gU P w H h):cu P w H h a u:=by
 rcases r with r|⟨o,r⟩
 .exact x a u r
 .obtain⟨_,q⟩:=x a _ r;exact q
noncomputable def Je:Option HO->Prop
 |some (.lst _)=>True
 |some (.dK _)=>True
 |some (.dT _)=>True
 |some (.set _ _)=>True
 |some (.ins _ _ _)=>True
 |some (.ext _)=>True
 |_=>False
section
variable {P:Program} {w:World} {H:Hp} {h h':Heap} {x e:Addr} {o':HO}
theorem gU.write(ok:gU P w H h)(I:Je (H x))(he:e=x\/H e=some (.own x))(k:∀b u,b≠e->h.get? b=some u->h'.get? b=some u)(ab:∃u,h'.get? e=some u)
  (new:cu P w (upd H x o') h' x o'):gU P w (upd H x o') h':= λ b u q=>by
 have J:∀c y,H c=some (.own y)->c≠x:= λ c y r z=>by subst z;rw[r]at I;exact I
 have U:∀c xs,H c=some (.tup xs)->c≠x:= λ c xs r z=>by subst z;rw[r]at I;exact I
 have aa:∀c ob u,H c=some (.frz ob u)->c≠x:= λ c ob u r z=>by subst z;rw[r]at I;exact I
 by_cases hb:b=x;. subst hb;rw[bf]at q;cases q;exact new
 .rw[aZ hb]at q;by_cases C:b=e
  .have q':H b=some (.own x):=by
    rcases he with z|z
    .exact absurd (C.trans z) hb
    .rw[C];exact z
   rw[q]at q';cases q';obtain⟨v,hv⟩:=ab;exact⟨v,by rw[C];exact hv⟩
  .refine(ok b u q).stay (λ c v hc r=>k c v ?_ r) (λ c r=>by rw[aZ (J c b r)];exact r) (λ c xs r=>by rw[aZ (U c xs r)];exact r) λ c ob v r=>by rw[aZ (aa c ob v r)];exact r
   grind
end
structure Un (fs ex:List Addr) (H H':Hp) (h h':Heap):Prop where
 keep:∀b o,h.get? b=some o->H b=none->b ∉ fs->b ∉ ex->h'.get? b=some o
 slot:∀b o,h.get? b=some o->H b=none->b ∈ fs->b ∉ ex->∃sl,h'.get? b=some { o with slots:=sl }
 free:∀b o,h.get? b=some o->H b=none->b ∉ ex->H' b=none
 there:∀b o,h.get? b=some o->b ∉ ex->∃o',h'.get? b=some o'
 tups:∀b xs,H b=some (.tup xs)->H' b=some (.tup xs)
 frzs:∀b o u,H b=some (.frz o u)->H' b=some (.frz o u)
 tbls:∀b ps,H b=some (.tbl ps)->∃more,H' b=some (.tbl (ps ++ more))
section
variable {fs ex:List Addr} {H H1:Hp} {h h1 h':Heap} {a x e:Addr} {o:HO}
theorem Un.any(u:Un fs ex H H1 h h1){b:Addr}{C:Obj}(q:h.get? b=some C)(n:H b=none)(hx:b∉ex):∃sl,h1.get? b=some { C with slots:=sl }:=by
 by_cases I:b∈fs;. exact u.slot b C q n I hx
 .exact⟨C.slots,u.keep b C q n I hx⟩
theorem Un.kept(k:∀b u,h.get? b=some u->h'.get? b=some u):Un fs ex H H h h':=
 ⟨λ b C q _ _ _=>k b C q,λ b C q _ _ _=>⟨C.slots,k b C q⟩,λ _ _ _ n _=>n,λ b C q _=>⟨C,k b C q⟩,λ _ _ q=>q,λ _ _ _ q=>q,λ _ ps q=>⟨#[],by grind⟩⟩
theorem Un.refl:Un fs ex H H h h:=Un.kept λ _ _ q=>q
theorem Un.laid(k:∀b u,h.get? b=some u->h'.get? b=some u)(hp:h.objs.size<=a)(C:H a=none):Un fs ex H (upd H a o) h h' where
 keep:= λ b u q _ _ _=>k b u q
 slot:= λ b u q _ _ _=>⟨u.slots,k b u q⟩
 free:= λ b u q n _=>by rw[aZ (Nat.ne_of_lt (Nat.lt_of_lt_of_le (Heap.lt_size q) hp))];exact n
 there:= λ b u q _=>⟨u,k b u q⟩
 tups:= λ b xs q=>by rw[aZ (bP q C)];exact q
 frzs:= λ b u xs q=>by rw[aZ (bP q C)];exact q
 tbls:= λ b ps q=>⟨#[],by rw[aZ (bP q C),q];simp⟩
theorem Un.write(C:Je (H x))(he:e=x\/H e=some (.own x))(k:∀b u,b≠e->h.get? b=some u->h'.get? b=some u)(J:∃u,h'.get? e=some u):Un fs ex H (upd H x o) h h':=by
 have hx:∀b,H b=none->b≠x:= λ b n z=>by subst z;rw[n]at C;exact C
 have I:∀b,H b=none->b≠e:= λ b n z=>by simp_all
 have hm:∀b u,H b=some u-> ¬Je (some u)->b≠x:= λ b u q nm z=>by subst z;rw[q]at C;exact nm C
 refine⟨λ b u q n _ _=>k b u (I b n) q,λ b u q n _ _=>⟨u.slots,k b u (I b n) q⟩,λ b u q n _=>by rw[aZ (hx b n)];exact n,λ b u q _=>?_,
  λ b xs q=>by rw[aZ (hm b _ q λ z=>z)];exact q,λ b u xs q=>by rw[aZ (hm b _ q λ z=>z)];exact q,λ b ps q=>⟨#[],by rw[aZ (hm b _ q λ z=>z),q];simp⟩⟩;grind
end
noncomputable def JA(h:Heap)(H:Hp):List Addr:=(List.range h.objs.size).filter λ a=>(H a).isSome
noncomputable def nH(h:Heap)(H:Hp):Heap:=PySem.W.hideAll h (JA h H)
theorem u6(h:Heap)(H:Hp):(nH h H).objs.size=h.objs.size:=PySem.W.hideAll_size _ _
theorem yX{H:Hp}{b:Addr}{o:Obj}(e:h.get? b=some o)(n:H b=none):(nH h H).get? b=some o:=
 PySem.W.hideAll_get _ e λ hm=>by have q:(H b).isSome=true:=(List.mem_filter.mp hm).2;grind
theorem AZ(e:(nH h H).get? b=some o):h.get? b=some o/\H b=none:=by have C:h.get? b=some o:=PySem.W.of_hideAll (JA h H) e;refine⟨C,?_⟩;cases q:H b with
 |none=>rfl
 |some x=>have hm:b∈JA h H:=List.mem_filter.mpr ⟨List.mem_range.mpr (Heap.lt_size C),by simp[q]⟩;have z:(nH h H).get? b=none:=PySem.W.hideAll_none (JA h H) hm;simp_all
noncomputable def Bt(g h:Heap)(L:Addr):List (Addr×Obj):=(List.range h.objs.size).filterMap λ a=>if a=L\/(g.get? a).isSome=true then none else(h.get? a).map λ o=>(a,o)
noncomputable def rest(g h:Heap)(L d:Addr):List (Addr×Obj):=(Bt g h L).filter λ p=>decide (p.1≠d)
structure Mod (K:PySem.W.Frag) (mg:Str->Option Value) (base:Heap):Prop where
 kin:K.In base
 glob:base.Ns mainGlobals mg
 blt:∃mb,base.Ns builtinsNs mb∧∀x:Str,x ≠ "__name__" -> mb x=bootBuiltins x
 nolimit:base.NoLimit
structure Cx where
 prog:Program
 w:World
 K:PySem.W.Frag
 mg:Str->Option Value
 base:Heap
 A:Around
 N:List Str
 s₀:Shared
 H₀:Hp
 env:Env
 outer:List Env
 stack:List Env
 ex:List Addr
 fn:Str->Bool
 calm:Bool
 pn:List (Addr × Obj)
 xe:Value->Shared->Prop
noncomputable def nQ:Str:="most_more"
noncomputable def Cj:Str:="most_more.<locals>.<lambda>"
noncomputable def vz(K:PySem.W.Frag)(H:Hp):Prop:=∀c P,PySem.W.tabIn K nQ=some (c,P)->∃C t0,H P=some (.tbl C)/\C[0]?=some (.str Cj t0)
theorem vz.un{K:PySem.W.Frag}{fs ex:List Addr}{H H':Hp}{h h':Heap}(t:vz K H)(u:Un fs ex H H' h h'):vz K H':= λ c P e=>by obtain⟨C,t0,h1,h2⟩:=t c P e;obtain⟨more,I⟩:=u.tbls P C h1;grind
noncomputable def fT(l:List Env):List Addr:=l.filterMap (·.frame)
noncomputable abbrev Cx.fs(X:Cx):List Addr:=fT X.outer
noncomputable def oZ(sc:Scope)(x:Str):Prop:=sc.names.lookup x=some .local\/sc.names.lookup x=some .cell\/sc.names.lookup x=some .free
noncomputable def Loc(sc:Scope)(x:Str):Prop:=sc.names.lookup x=some .local\/sc.names.lookup x=some .cell
noncomputable def Look(env:Env)(h:Heap)(m:Str->Option Value)(x:Str)(u:Value):Prop:=
 (env.kindOf x=some .local/\m x=some u)\/((env.kindOf x=some .cell\/env.kindOf x=some .free)/\∃c,env.cells.lookup x=some c/\h.IsCell c (some u))
structure Cx.Ok (X:Cx):Prop where
 mod:Mod X.K X.mg X.base
 kind:X.env.scope.kind=.function
 glob:X.env.globals=mainGlobals
 blt:X.env.builtins=builtinsNs
 above:X.s₀.heap.objs.size ≤ X.env.locals
 inj:∀x y c,X.env.cells.lookup x=some c->X.env.cells.lookup y=some c->x=y
 has:∀x,(X.env.kindOf x=some .cell ∨ X.env.kindOf x=some .free)->∃c,X.env.cells.lookup x=some c
 cab:∀x c,X.fn x=true->X.env.cells.lookup x=some c->X.s₀.heap.objs.size ≤ c
 hd:X.calm=true->X.A.handled=none
 frames:X.A.frames=some X.stack
 stk:X.stack=X.outer ∨ (X.stack=X.env :: X.outer∧X.env.frame=some X.env.locals)
 exf:∀b ∈ X.ex,b ≠ X.env.locals∧∀x c,X.env.cells.lookup x=some c->c ≠ b
 bs:∀b o,X.base.get? b=some o->X.s₀.heap.get? b=some o∧X.H₀ b=none
 bsz:X.base.objs.size ≤ X.s₀.heap.objs.size
 noex:∀b o,X.base.get? b=some o->b ∉ X.ex
 exfs:∀b ∈ X.ex,b ∉ X.fs
 funs:X.s₀.heap.FunFrames X.base X.outer
 frf:∀b ∈ X.fs,X.H₀ b=none
 tb:vz X.K X.H₀
structure Inv (X:Cx) (pins:List (Addr × Obj)) (σ:List (Option V)) (H:Hp) (s:Shared):Prop where
 ok:X.Ok
 os:s.os=X.s₀.os
 bare:AllBare s.gens
 base:Un X.fs X.ex X.H₀ H X.s₀.heap s.heap
 loc:∃m,s.heap.Ns X.env.locals m∧∀(i:Nat) (x:Str) (v:V),X.N[i]? = some x->σ[i]? = some (some v)->oZ X.env.scope x->∃u,RelV v u∧Look X.env s.heap m x u
 cell:∀x c,X.env.cells.lookup x=some c->∃v,s.heap.IsCell c v
 free:H X.env.locals=none
 freeC:∀x c,X.env.cells.lookup x=some c->H c=none
 pin:∀p ∈ X.pn ++ pins,s.heap.get? p.1=some p.2∧H p.1=none∧p.1 ≠ X.env.locals∧p.1 ∉ X.fs∧∀v,p.2.data ≠ .cell v
 hok:gU X.prog X.w H s.heap
 len:σ.length=X.N.length
section
variable {X:Cx} {pins:List (Addr × Obj)} {σ:List (Option V)} {H H':Hp} {s:Shared} {h':Heap}
theorem Cx.Ok.nofr(ok:X.Ok){b:Addr}{o:Obj}(e:X.base.get? b=some o):b∉X.fs:= λ C=>by have:=(ok.funs.mem C).1;grind
theorem Inv.bs(I:Inv X pins σ H s):∀b o,X.base.get? b=some o->s.heap.get? b=some o/\H b=none:= λ b o e=>
 ⟨I.base.keep b o (I.ok.bs b o e).1 (I.ok.bs b o e).2 (I.ok.nofr e) (I.ok.noex b o e),I.base.free b o (I.ok.bs b o e).1 (I.ok.bs b o e).2 (I.ok.noex b o e)⟩
theorem Inv.bk(I:Inv X pins σ H s):∀b o,X.base.get? b=some o->s.heap.get? b=some o:= λ b o e=>(I.bs b o e).1
theorem Inv.tb(I:Inv X pins σ H s):vz X.K H:=I.ok.tb.un I.base
theorem Inv.mod(I:Inv X pins σ H s):Mod X.K X.mg X.base:=I.ok.mod
theorem Inv.kIn(I:Inv X pins σ H s):X.K.In s.heap:=I.ok.mod.kin.keeps I.bk
theorem Inv.lt(I:Inv X pins σ H s):X.env.locals<s.heap.objs.size:=let⟨_,C,_⟩:=I.loc;C.lt
theorem Inv.sz(I:Inv X pins σ H s):X.s₀.heap.objs.size<=s.heap.objs.size:=Nat.le_trans I.ok.above (Nat.le_of_lt I.lt)
theorem Inv.nofs(I:Inv X pins σ H s){a:Addr}(h:s.heap.objs.size<=a):a∉X.fs:= λ C=>by obtain⟨_,o,J,_⟩:=I.ok.funs.mem C;exact absurd (Nat.lt_of_lt_of_le (Heap.lt_size J) (Nat.le_trans I.sz h)) (Nat.lt_irrefl _)
theorem Inv.cne(I:Inv X pins σ H s):∀x c,X.env.cells.lookup x=some c->c≠X.env.locals:= λ x c e z=>by obtain⟨v,o,U,hd⟩:=I.cell x c e;obtain⟨m,⟨o',es,ep,C,J,_⟩,_⟩:=I.loc;grind
theorem Inv.funs(I:Inv X pins σ H s):s.heap.FunFrames X.base X.outer:=by
 have all:∀(l:List Env),(∀b∈fT l,b∈X.fs)->X.s₀.heap.FunFrames X.base l->s.heap.FunFrames X.base l:=by intro l;induction l with
  |nil=>intro _ _;trivial
  |cons env r U=>intro hs hl;obtain⟨hk,⟨L,o,hf,hn,ho,hd⟩,hr⟩:=hl;have C:L∈X.fs:=hs L (by unfold fT;grind);obtain⟨sl,e⟩:=I.base.slot L o ho (I.ok.frf L C) C λ z=>I.ok.exfs L z C;exact⟨hk,⟨L,_,hf,hn,e,hd⟩,U (λ b J=>hs b (by unfold fT;rw[List.filterMap_cons,hf];exact List.mem_cons_of_mem _ J)) hr⟩
 exact all X.outer (λ _ J=>J) I.ok.funs
theorem Inv.stack(I:Inv X pins σ H s):s.heap.FunFrames X.base X.stack:=by
 rcases I.ok.stk with e|⟨e,hf⟩
 .rw[e];exact I.funs
 .rw[e];obtain⟨m,C,_⟩:=I.loc;refine .cons (by rw[I.ok.kind];decide) hf C ?_ I.funs;exact Heap.get?_none_of_le (Nat.le_trans I.ok.bsz I.ok.above)
theorem Inv.stkSub(I:Inv X pins σ H s):∀b∈fT X.stack,b∈X.env.locals::X.fs:= λ b C=>by
 rcases I.ok.stk with e|⟨e,hf⟩
 .grind
 .rw[e]at C;unfold fT at C;rw[List.filterMap_cons,hf]at C;exact C
theorem Inv.stkFree(I:Inv X pins σ H s):∀b∈fT X.stack,H b=none:= λ b C=>by
 rcases List.mem_cons.mp (I.stkSub b C)with e|C
 .rw[e];exact I.free
 .obtain⟨_,o,J,_⟩:=I.ok.funs.mem C;exact I.base.free b o J (I.ok.frf b C) λ z=>I.ok.exfs b z C
theorem Inv.step{g':Array GenState}{t':Nat}{d':Drawn}{ch:List Addr}(I:Inv X pins σ H s)
  (C:∀b∈ch,(b∈X.ex\/X.s₀.heap.objs.size<=b)/\b≠X.env.locals/\(∀x c,X.env.cells.lookup x=some c->c≠b)/\∀p∈X.pn++pins,p.1≠b)
  (keep:∀b o,b≠X.env.locals->b∉X.fs->b∉ch->s.heap.get? b=some o->H b=none->h'.get? b=some o)
  (slot:∀b o,b≠X.env.locals->b∈X.fs->b∉ch->s.heap.get? b=some o->H b=none->∃sl,h'.get? b=some { o with slots:=sl })(free:∀b o,b∉ch->s.heap.get? b=some o->H b=none->H' b=none)
  (there:∀b o,b∉ch->s.heap.get? b=some o->∃o',h'.get? b=some o')
  (aa:∀b xs,H b=some (.tup xs)->H' b=some (.tup xs))(ab:∀b o u,H b=some (.frz o u)->H' b=some (.frz o u))(ae:∀b ps,H b=some (.tbl ps)->∃more,H' b=some (.tbl (ps++more)))
  (ns:∀m,s.heap.Ns X.env.locals m->h'.Ns X.env.locals m)(ah:gU X.prog X.w H' h')(hg:AllBare g'):
  Inv X pins σ H' { s with heap:=h',gens:=g',drawn:=d',toks:=t' }:=by
 have af:∀b o,X.s₀.heap.get? b=some o->b≠X.env.locals:= λ b o e=>Nat.ne_of_lt (Nat.lt_of_lt_of_le (Heap.lt_size e) I.ok.above);have J:∀b o,X.s₀.heap.get? b=some o->b∉X.ex->b∉ch:= λ b o e hx hb=>by
  rcases(C b hb).1 with z|z
  .exact hx z
  .exact absurd (Nat.lt_of_lt_of_le (Heap.lt_size e) z) (Nat.lt_irrefl _)
 have cellK:∀x c,X.env.cells.lookup x=some c->∀v,s.heap.IsCell c v->h'.IsCell c v:= λ x c e v ⟨o,ho,hd⟩=>by
  have ag:c∉ch:= λ z=>(C c z).2.2.1 x c e rfl;by_cases hc:c∈X.fs;. obtain⟨sl,q⟩:=slot c o (I.cne x c e) hc ag ho (I.freeC x c e);exact⟨_,q,hd⟩
  .exact⟨o,keep c o (I.cne x c e) hc ag ho (I.freeC x c e),hd⟩
 refine⟨I.ok,I.os,hg,⟨λ b o e n hb hx=>?_,λ b o e n hb hx=>?_,λ b o e n hx=>?_,λ b o e hx=>?_,λ b xs e=>aa b xs (I.base.tups b xs e),λ b o xs e=>ab b o xs (I.base.frzs b o xs e),λ b ps e=>?_⟩,?_,λ x c e=>?_,?_,λ x c e=>?_,λ p hp=>?_,ah,I.len⟩;. exact keep b o (af b o e) hb (J b o e hx) (I.base.keep b o e n hb hx) (I.base.free b o e n hx)
 .obtain⟨sl,U⟩:=I.base.slot b o e n hb hx;obtain⟨ai,e2⟩:=slot b _ (af b o e) hb (J b o e hx) U (I.base.free b o e n hx);grind
 .obtain⟨o',U⟩:=I.base.there b o e hx;exact free b o' (J b o e hx) U (I.base.free b o e n hx)
 .obtain⟨o',U⟩:=I.base.there b o e hx;exact there b o' (J b o e hx) U
 .obtain⟨m1,U⟩:=I.base.tbls b ps e;obtain⟨m2,e2⟩:=ae b _ U;exact⟨m1++m2,by rw[e2,Array.append_assoc]⟩
 .obtain⟨m,hn,hl⟩:=I.loc;refine⟨m,ns m hn,λ i x v U e2 e3=>?_⟩;obtain⟨u,r,l⟩:=hl i x v U e2 e3;refine⟨u,r,?_⟩;rcases l with l|⟨k,c,e,z⟩
  .exact .inl l
  .exact .inr ⟨k,c,e,cellK x c e _ z⟩
 .obtain⟨v,z⟩:=I.cell x c e;exact⟨v,cellK x c e v z⟩
 .obtain⟨m,⟨o,_,_,ho,_⟩,_⟩:=I.loc;exact free _ o (λ z=>(C _ z).2.1 rfl) ho I.free
 .obtain⟨v,o,ho,hd⟩:=I.cell x c e;exact free c o (λ z=>(C c z).2.2.1 x c e rfl) ho (I.freeC x c e)
 .obtain⟨e,n,ne,nf,d⟩:=I.pin p hp;grind
theorem Inv.un(I:Inv X pins σ H s)(u:Un X.fs [] H H' s.heap h')(J:gU X.prog X.w H' h'):Inv X pins σ H' { s with heap:=h',toks:=t' }:=by obtain⟨m,⟨o,es,ep,ho,r⟩,_⟩:=id I.loc;obtain⟨sl,hL⟩:=u.any ho I.free (by simp);exact I.step (g':=s.gens) (d':=s.drawn) (ch:=[]) (λ _ z=>nomatch z) (λ b o _ U _ e n=>u.keep b o e n U (by simp)) (λ b o _ U _ e n=>u.slot b o e n U (by simp)) (λ b o _ e n=>u.free b o e n (by simp)) (λ b o _ e=>u.there b o e (by simp)) u.tups u.frzs u.tbls (λ m' hm=>by obtain⟨o',aa,ab,C,r'⟩:=hm;rw[ho]at C;cases C;exact⟨_,aa,ab,hL,r'⟩) J I.bare
theorem Inv.call{d':Drawn}{ch:List Addr}(I:Inv X pins σ H s)(u:Un (fT X.stack) ch H H' s.heap h')(aa:gU X.prog X.w H' h')(hg:AllBare g')
  (J:∀b∈ch,(b∈X.ex\/X.s₀.heap.objs.size<=b)/\b≠X.env.locals/\(∀x c,X.env.cells.lookup x=some c->c≠b)/\∀p∈X.pn++pins,p.1≠b):
  Inv X pins σ H' { s with heap:=h',gens:=g',drawn:=d',toks:=t' }:=by obtain⟨m,⟨o,es,ep,ho,r⟩,_⟩:=id I.loc;obtain⟨sl,hL⟩:=u.any ho I.free λ z=>(J _ z).2.1 rfl;exact I.step (ch:=ch) J (λ b o hL hb C e n=>u.keep b o e n (λ z=>(List.mem_cons.mp (I.stkSub b z)).elim hL hb) C) (λ b o _ _ C e n=>u.any e n C) (λ b o C e n=>u.free b o e n C) (λ b o C e=>u.there b o e C) u.tups u.frzs u.tbls (λ m' hm=>by obtain⟨o',ab,ae,U,r'⟩:=hm;rw[ho]at U;cases U;exact⟨_,ab,ae,hL,r'⟩) aa hg
theorem Inv.turned{it:Addr}(I:Inv X pins σ H s)(k:∀b o,b≠it->s.heap.get? b=some o->h'.get? b=some o)(hn:H it=none)(J:it≠X.env.locals)
  (h1:it∈X.ex\/X.s₀.heap.objs.size<=it)(h2:∀x c,X.env.cells.lookup x=some c->c≠it)(h3:∀p∈X.pn++pins,p.1≠it):Inv X pins σ H { s with heap:=h',toks:=t' }:=by
 refine I.step (g':=s.gens) (d':=s.drawn) (ch:=[it]) (λ b hb=>?_) (λ b o _ _ C e _=>k b o (λ z=>C (by simp[z])) e) (λ b o _ _ C e _=>⟨o.slots,k b o (λ z=>C (by simp[z])) e⟩) (λ _ _ _ _ n=>n)
  (λ b o C e=>⟨o,k b o (λ z=>C (by simp[z])) e⟩) (λ _ _ e=>e) (λ _ _ _ e=>e) (λ b ps e=>⟨#[],by rw[e];simp⟩) (λ m hm=>?_) (λ b u e=>?_) I.bare;. grind
 .obtain⟨o,es,U,ho,r⟩:=hm;exact⟨o,es,U,k _ o (Ne.symm J) ho,r⟩
 .refine(I.hok b u e).stay (λ c v C q=>k c v ?_ q) (λ _ q=>q) λ _ _ q=>q;grind
theorem Inv.tok(I:Inv X pins σ H s)(t:Nat):Inv X pins σ H { s with toks:=t }:=I.un (h':=s.heap) (t':=t) Un.refl I.hok
theorem Inv.kept(I:Inv X pins σ H s)(k:∀b u,s.heap.get? b=some u->h'.get? b=some u):Inv X pins σ H { s with heap:=h',toks:=t' }:=I.un (Un.kept k) (I.hok.kept k)
theorem Inv.laid{a:Addr}{o:HO}{t':Nat}(I:Inv X pins σ H s)(k:∀b u,s.heap.get? b=some u->h'.get? b=some u)(C:s.heap.objs.size<=a)(new:cu X.prog X.w (upd H a o) h' a o):
  Inv X pins σ (upd H a o) { s with heap:=h',toks:=t' }:=I.un (Un.laid k C (I.hok.fresh C)) (I.hok.laid k C new)
theorem Inv.write(I:Inv X pins σ H s)(J:Je (H x))(he:e=x\/H e=some (.own x))(k:∀b u,b≠e->s.heap.get? b=some u->h'.get? b=some u)(C:∃u,h'.get? e=some u)
  (new:cu X.prog X.w (upd H x o) h' x o):Inv X pins σ (upd H x o) { s with heap:=h',toks:=t' }:=I.un (Un.write J he k C) (I.hok.write J he k C new)
theorem Inv.weak(I:Inv X pins σ H s)(U:C.length=σ.length)(w:∀(i:Nat) v,C[i]?=some (some v)->σ[i]?=some (some v)):Inv X pins C H s:=
 ⟨I.ok,I.os,I.bare,I.base,let⟨m,hn,J⟩:=I.loc;⟨m,hn,λ i x v e1 e2 e3=>J i x v e1 (w i v e2) e3⟩,I.cell,I.free,I.freeC,I.pin,I.hok,U.trans I.len⟩
theorem Inv.pins_of(I:Inv X pins σ H s)(h:∀p∈pins',s.heap.get? p.1=some p.2/\H p.1=none/\p.1≠X.env.locals/\p.1∉X.fs/\∀v,p.2.data≠ .cell v):Inv X pins' σ H s:=
 ⟨I.ok,I.os,I.bare,I.base,I.loc,I.cell,I.free,I.freeC,λ p C=>(List.mem_append.mp C).elim (λ z=>I.pin p (List.mem_append_left _ z)) (h p),I.hok,I.len⟩
theorem lh{N:List Str}(C:N.Nodup){i j:Nat}{x:Str}(a:N[i]?=some x)(b:N[j]?=some x):i=j:=by obtain⟨h1,I⟩:=List.getElem?_eq_some_iff.mp a;obtain⟨h2,J⟩:=List.getElem?_eq_some_iff.mp b;exact(List.getElem_inj C).mp (I.trans J.symm)
theorem mD{i:Nat}{x:Str}{v:V}{u:Value}{Q:Unit->Shared->Prop}(I:Inv X pins σ H s)(hN:X.N.Nodup)(hi:X.N[i]?=some x)(hx:Loc X.env.scope x)(r:RelV v u)
  (h:∀s',Inv X pins (σ.set i (some v)) H s'->(∃a,Heap.SameBut a s.heap s'.heap/\(a=X.env.locals\/X.env.cells.lookup x=some a))->Q () s')(hf:X.fn x=true\/X.env.scope.names.lookup x=some .local:=by first|exact .inl rfl|exact .inr rfl|assumption):wpAny M A (storeName X.env x u) Q E s:=by
 obtain⟨m,hn,hl⟩:=id I.loc;have ae:(X.env.scope.kind== .class||(X.env.scope.kind== .module&&X.env.locals !=X.env.globals))=false:=by rw[I.ok.kind];rfl
 have aa:i<σ.length:=by rw[I.len];exact(List.getElem?_eq_some_iff.mp hi).1
 have cne:=I.cne;have tracked:∀{a:Addr}{h':Heap},(∃o,s.heap.get? a=some o/\H a=none)->Heap.SameBut a s.heap h'->gU X.prog X.w H h':= λ{a h'} ha hs b ob e=>by refine(I.hok b ob e).stay (λ c w' J q=>(hs.2 c ?_).trans q) (λ _ q=>q) λ _ _ q=>q;grind
 rcases hx with hk|hk
 .refine wpAny_storeName_local hk hn (λ h' aj hs=>?_) ae;obtain⟨oL,_,_,ak,_⟩:=id hn;refine h _ ⟨I.ok,I.os,I.bare,⟨λ b o e n hb hx=>?_,λ b o e n hb hx=>?_,I.base.free,λ b o e hx=>?_,I.base.tups,I.base.frzs,I.base.tbls⟩,⟨_,aj,λ j y v' C U e3=>?_⟩,λ y c e=>?_,I.free,I.freeC,λ p hp=>?_,tracked ⟨oL,ak,I.free⟩ hs,by simpa using I.len⟩ ⟨_,hs,.inl rfl⟩;. exact(hs.2 b (Nat.ne_of_lt (Nat.lt_of_lt_of_le (Heap.lt_size e) I.ok.above))).trans (I.base.keep b o e n hb hx)
  .obtain⟨sl,C⟩:=I.base.slot b o e n hb hx;exact⟨sl,(hs.2 b (Nat.ne_of_lt (Nat.lt_of_lt_of_le (Heap.lt_size e) I.ok.above))).trans C⟩
  .obtain⟨o',C⟩:=I.base.there b o e hx;exact⟨o',(hs.2 b (Nat.ne_of_lt (Nat.lt_of_lt_of_le (Heap.lt_size e) I.ok.above))).trans C⟩
  .by_cases hj:j=i;. subst hj;rw[hi]at C;cases C;rw[List.getElem?_set_self aa]at U;cases U;exact⟨u,r,.inl ⟨hk,by simp⟩⟩
   .rw[List.getElem?_set_ne (Ne.symm hj)]at U;obtain⟨u',r',q⟩:=hl j y v' C U e3;refine⟨u',r',?_⟩;rcases q with⟨k,e⟩|⟨k,c,e,z⟩
    .refine .inl ⟨k,?_⟩;have:y≠x:= λ e=>hj (lh hN C (e▸hi));simp[this,e]
    .exact .inr ⟨k,c,e,z.sameBut hs (cne y c e)⟩
  .obtain⟨w',z⟩:=I.cell y c e;exact⟨w',z.sameBut hs (cne y c e)⟩
  .obtain⟨e,n,ne,nf,d⟩:=I.pin p hp;exact⟨(hs.2 p.1 ne).trans e,n,ne,nf,d⟩
 .have ab:X.fn x=true:=by
   rcases hf with z|z
   .exact z
   .rw[z]at hk;cases hk
  obtain⟨c,J⟩:=I.ok.has x (.inl hk);obtain⟨w',z⟩:=I.cell x c J;refine wpAny_storeName_cell I.ok.kind hk J z (λ h' af hs=>?_);obtain⟨oc,ag,ah⟩:=id z;refine h { s with heap:=h' } ⟨I.ok,I.os,I.bare,⟨λ b o e n hb hx=>?_,λ b o e n hb hx=>?_,I.base.free,λ b o e hx=>?_,I.base.tups,I.base.frzs,I.base.tbls⟩,⟨m,hn.sameBut hs (Ne.symm (cne x c J)),λ j y v' C U e3=>?_⟩,λ y c' e=>?_,I.free,I.freeC,λ p hp=>?_,tracked ⟨oc,ag,I.freeC x c J⟩ hs,by simpa using I.len⟩ ⟨c,hs,.inr J⟩;. exact(hs.2 b (Nat.ne_of_lt (Nat.lt_of_lt_of_le (Heap.lt_size e) (I.ok.cab x c ab J)))).trans (I.base.keep b o e n hb hx)
  .obtain⟨sl,C⟩:=I.base.slot b o e n hb hx;exact⟨sl,(hs.2 b (Nat.ne_of_lt (Nat.lt_of_lt_of_le (Heap.lt_size e) (I.ok.cab x c ab J)))).trans C⟩
  .obtain⟨o',C⟩:=I.base.there b o e hx;exact⟨o',(hs.2 b (Nat.ne_of_lt (Nat.lt_of_lt_of_le (Heap.lt_size e) (I.ok.cab x c ab J)))).trans C⟩
  .by_cases hj:j=i;. subst hj;rw[hi]at C;cases C;rw[List.getElem?_set_self aa]at U;cases U;exact⟨u,r,.inr ⟨.inl hk,c,J,af⟩⟩
   .rw[List.getElem?_set_ne (Ne.symm hj)]at U;obtain⟨u',r',q⟩:=hl j y v' C U e3;refine⟨u',r',?_⟩;rcases q with q|⟨k,c',e,z'⟩
    .exact .inl q
    .refine .inr ⟨k,c',e,z'.sameBut hs ?_⟩;rintro rfl;exact hj (lh hN C (I.ok.inj _ _ _ e J▸hi))
  .by_cases ai:c'=c;. subst ai;exact⟨_,af⟩
   .obtain⟨w2,z2⟩:=I.cell y c' e;exact⟨w2,z2.sameBut hs ai⟩
  .obtain⟨e,n,ne,nf,d⟩:=I.pin p hp;refine⟨(hs.2 p.1 ?_).trans e,n,ne,nf,d⟩;intro q;rw[q,ag]at e;have q':oc=p.2:=Option.some.inj e;exact d w' (by rw[<- q'];exact ah)
theorem f_{i:Nat}{x:Str}{v:V}{u:Value}{Q:Unit->Shared->Prop}(I:Inv X pins σ H s)(C:X.N.Nodup)(J:X.N[i]?=some x)(hx:Loc X.env.scope x)(r:RelV v u)
  (h:∀s',Inv X pins (σ.set i (some v)) H s'->Q () s')(hf:X.fn x=true\/X.env.scope.names.lookup x=some .local:=by first | exact .inl rfl | exact .inr rfl | assumption):wpAny M A (storeName X.env x u) Q E s:=
 mD I C J hx r (λ s' U _=>h s' U) hf
theorem Inv.call'{ch:List Addr}(I:Inv X pins σ H s)(U:s'.os=s.os)(u:Un (fT X.stack) ch H H' s.heap s'.heap)(C:gU X.prog X.w H' s'.heap)(hg:AllBare s'.gens)
  (J:∀b∈ch,(b∈X.ex\/X.s₀.heap.objs.size<=b)/\b≠X.env.locals/\(∀x c,X.env.cells.lookup x=some c->c≠b)/\∀p∈X.pn++pins,p.1≠b):Inv X pins σ H' s':=by obtain⟨h',g',d',t',o'⟩:=s';have e:o'=s.os:=U;subst e;exact I.call (g':=g') (t':=t') (d':=d') u C hg J
end
noncomputable abbrev XK:=Value->Option Addr->Hp->Prop
noncomputable abbrev St:=List (Option V)
noncomputable abbrev VK:=V->Hp->Prop
noncomputable abbrev TE:=St->Hp->VK->Prop
noncomputable abbrev TT:=St->Hp->(Bool->Hp->Prop)->Prop
noncomputable abbrev TA:=St->Hp->(List V->Hp->Prop)->Prop
structure Ends where
 nx:St->Hp->Prop
 rt:VK
 bk:St->Hp->Prop:=fun _ _=>False
 ct:St->Hp->Prop:=fun _ _=>False
noncomputable abbrev TS:=Ends->St->Hp->Prop
noncomputable def EP(X:Cx)(pins:List (Addr×Obj))(σ:St)(Q:VK)(u:Value)(s':Shared):Prop:=∃v H',Inv X pins σ H' s'/\RelV v u/\Q v H'
noncomputable def TP(X:Cx)(pins:List (Addr×Obj))(σ:St)(Q:Bool->Hp->Prop)(b:Bool)(s':Shared):Prop:=∃H',Inv X pins σ H' s'/\Q b H'
noncomputable def AP(X:Cx)(pins:List (Addr×Obj))(σ:St)(Q:List V->Hp->Prop)(us:List Value)(s':Shared):Prop:=∃vs H',Inv X pins σ H' s'/\Vals vs us/\Q vs H'
noncomputable def SP(X:Cx)(pins:List (Addr×Obj))(D:Ends)(f:Flow)(s':Shared):Prop:=
 match f with
 | .next=>∃C H',Inv X pins C H' s'/\D.nx C H'
 | .brk=>∃C H',Inv X pins C H' s'/\D.bk C H'
 | .cont=>∃C H',Inv X pins C H' s'/\D.ct C H'
 | .ret u=>∃v C H',Inv X pins C H' s'/\RelV v u/\D.rt v H'
noncomputable def PE(X:Cx)(e:Expr)(t:TE):Prop:=
 ∀(pins:List (Addr×Obj))(s:Shared)(σ:St)(H:Hp)(Q:VK),Inv X pins σ H s->t σ H Q->wpAny (model X.prog X.w) X.A (eval e X.env) (EP X pins σ Q) X.xe s
noncomputable def PT(X:Cx)(e:Expr)(t:TT):Prop:=
 ∀(pins:List (Addr×Obj))(s:Shared)(σ:St)(H:Hp)(Q:Bool->Hp->Prop),Inv X pins σ H s->t σ H Q->wpAny (model X.prog X.w) X.A (isTrue e X.env (eval e X.env)) (TP X pins σ Q) X.xe s
noncomputable def PW(X:Cx)(e:Expr)(t:TT):Prop:=
 ∀(whole:Sem Value)(pins:List (Addr×Obj))(s:Shared)(σ:St)(H:Hp)(Q:Bool->Hp->Prop),Inv X pins σ H s->t σ H Q->wpAny (model X.prog X.w) X.A (isTrue e X.env whole) (TP X pins σ Q) X.xe s
theorem PW.pt(h:PW X e t):PT X e t:=h _
noncomputable def PA(X:Cx)(es:List Expr)(t:TA):Prop:=
 ∀(pos:Pos)(pins:List (Addr×Obj))(s:Shared)(σ:St)(H:Hp)(Q:List V->Hp->Prop),Inv X pins σ H s->t σ H Q->wpAny (model X.prog X.w) X.A (spliced (backTo pos (starEach es X.env))) (AP X pins σ Q) X.xe s
noncomputable def PS(X:Cx)(st:Stmt)(t:TS):Prop:=
 ∀(pins:List (Addr×Obj))(s:Shared)(σ:St)(H:Hp)(D:Ends),Inv X pins σ H s->t D σ H->wpAny (model X.prog X.w) X.A (exec st X.env) (SP X pins D) X.xe s
noncomputable def kE(X:Cx)(st:List Stmt)(t:TS):Prop:=
 ∀(pins:List (Addr×Obj))(s:Shared)(σ:St)(H:Hp)(D:Ends),Inv X pins σ H s->t D σ H->wpAny (model X.prog X.w) X.A (execs st X.env) (SP X pins D) X.xe s
theorem cp{M:Model}{A:Around}{E:Value->Shared->Prop}{s:Shared}(h:wpAny M A t Q E s)(C:∀a s,Q a s->I a s):wpAny M A t I E s:=wpAny_mono h C λ _ _ x=>x
section
variable {X:Cx}
noncomputable def fK(i:Nat):TE:= λ σ H Q=>∃v,σ[i]?=some (some v)/\Q v H
noncomputable def tC(v:V):TE:= λ _ H Q=>Q v H
theorem cY{pos:Pos}(hN:X.N[i]?=some x)(hv:oZ X.env.scope x)(hd:(x==("__debug__":Str))=false:=by decide)(U:(x==("__classdict__":Str))=false:=by decide):PE X (.Name x pos) (fK i):=by
 intro pins s σ H Q I h;obtain⟨v,e,h⟩:=h;obtain⟨m,hn,hl⟩:=I.loc;obtain⟨u,r,l⟩:=hl i x v hN e hv;have fin:EP X pins σ Q u s:=⟨v,H,I,r,h⟩;rcases l with⟨J,hm⟩|⟨J,c,hc,C⟩
 .exact wpAny_Name (wpAny_loadName_local I.ok.kind J hn hm fin) hd
 .rcases J with J|J
  .exact wpAny_Name (wpAny_loadName_cell I.ok.kind J hc C fin) hd
  .exact wpAny_Name (wpAny_loadName_free I.ok.kind J hc C fin U) hd
theorem mL:PE X (.Constant (.int i) j pos) (tC (.int i)):= λ _ _ _ H _ I h=>wpAny_Constant_int ⟨.int i,H,I.tok _,⟨_,rfl⟩,h⟩
theorem Ec:PE X (.Constant (.bool b) j pos) (tC (.bl b)):= λ _ _ _ H _ I h=>Constant_bool ⟨.bl b,H,I,rfl,h⟩
theorem Gp:PE X (.Constant .none j pos) (tC .non):= λ _ _ _ H _ I h=>Constant_none ⟨.non,H,I,rfl,h⟩
theorem mJ:PE X (.Constant (.str x) j pos) (tC (.str x)):= λ _ _ _ H _ I h=>Calls.Constant_str ⟨.str x,H,I.tok _,⟨_,rfl⟩,h⟩
noncomputable def Gl(X:Cx)(x:Str):Prop:=X.env.kindOf x=some .globalImplicit
theorem fz{pins:List (Addr×Obj)}{s:Shared}{σ:St}{H:Hp}{x:Str}{u:Value}{pos:Pos}{Q:Value->Shared->Prop}(I:Inv X pins σ H s)(C:Gl X x)(hm:X.mg x=some u)(h:Q u s)
  (hd:(x==("__debug__":Str))=false:=by decide):wpAny (model X.prog X.w) X.A (eval (.Name x pos) X.env) Q E s:=
 Calls.Name_function_global I.ok.kind C (Calls.loadGlobal_global (by rw[I.ok.glob];exact I.mod.glob.keeps I.bk) hm h) hd
theorem gf{E:Value->Shared->Prop}{pins:List (Addr×Obj)}{s:Shared}{σ:St}{H:Hp}{x:Str}{u:Value}{pos:Pos}{Q:Value->Shared->Prop}(I:Inv X pins σ H s)(C:Gl X x)(hm:X.mg x=none)(J:bootBuiltins x=some u)(h:Q u s)
  (U:x≠"__name__":=by decide)(hd:(x==("__debug__":Str))=false:=by decide):wpAny (model X.prog X.w) X.A (eval (.Name x pos) X.env) Q E s:=by obtain⟨mb,h1,h2⟩:=I.mod.blt;exact Calls.Name_function_global I.ok.kind C (Calls.loadGlobal_builtin (by rw[I.ok.glob];exact I.mod.glob.keeps I.bk) hm (by rw[I.ok.blt];exact h1.keeps I.bk) ((h2 x U).trans J) h) hd
theorem jR{u:Value}{pos:Pos}(C:Gl X x)(hm:X.mg x=some u)(r:RelV v u)(hd:(x==("__debug__":Str))=false:=by decide):PE X (.Name x pos) (tC v):=
 λ _ _ _ H _ I h=>fz I C hm ⟨v,H,I,r,h⟩ hd
theorem tV{u:Value}{pos:Pos}(C:Gl X x)(hm:X.mg x=none)(J:bootBuiltins x=some u)(r:RelV v u)(U:x≠"__name__":=by decide)(hd:(x==("__debug__":Str))=false:=by decide):PE X (.Name x pos) (tC v):=
 λ _ _ _ H _ I h=>gf I C hm J ⟨v,H,I,r,h⟩ U hd
variable {a b:Expr} {ta tb:TE} {pos:Pos}
variable {tA tB':TT} {rest:List Expr}
noncomputable def J7(t u:TT):TT:= λ σ H Q=>t σ H λ c H1=>if c=true then u σ H1 Q else Q false H1
noncomputable def KA(t u:TT):TT:= λ σ H Q=>t σ H λ c H1=>if c=true then Q true H1 else u σ H1 Q
noncomputable def HN(t:TT):TT:= λ σ H Q=>t σ H λ c H1=>Q (!c) H1
theorem DR(C:PT X a tA):PW X (.BoolOp .And [a] pos) tA:=by intro wh pins s σ H Q I h;refine isTrue_and (cp (C pins s σ H Q I h) λ c s1 e=>?_);cases c with
 |true=>exact isTrue_and_nil e
 |false=>exact e
theorem yD(C:PT X a tA):PW X (.BoolOp .Or [a] pos) tA:=by intro wh pins s σ H Q I h;refine isTrue_or (cp (C pins s σ H Q I h) λ c s1 e=>?_);cases c with
 |false=>exact isTrue_or_nil e
 |true=>exact e
theorem FW(U:PT X a tA)(hb:PW X (.BoolOp .And (b::rest) pos) tB'):PW X (.BoolOp .And (a::b::rest) pos) (J7 tA tB'):=by intro wh pins s σ H Q I h;refine isTrue_and (cp (U pins s σ H _ I h) λ c s1 ⟨H1,C,J⟩=>?_);cases c with
 |true=>exact hb wh pins s1 σ H1 Q C J
 |false=>exact⟨H1,C,J⟩
theorem Eb(U:PT X a tA)(hb:PW X (.BoolOp .Or (b::rest) pos) tB'):PW X (.BoolOp .Or (a::b::rest) pos) (KA tA tB'):=by intro wh pins s σ H Q I h;refine isTrue_or (cp (U pins s σ H _ I h) λ c s1 ⟨H1,C,J⟩=>?_);cases c with
 |true=>exact⟨H1,C,J⟩
 |false=>exact hb wh pins s1 σ H1 Q C J
theorem wQ(C:PT X a tA):PT X (.UnaryOp .Not a pos) (HN tA):=by intro pins s σ H Q I h;exact isTrue_not (C pins s σ H (λ c H1=>Q (!c) H1) I h)
noncomputable def Iu(ta tb:TE):TE:= λ σ H Q=>ta σ H λ x H1=>∃c,x= .bl c/\if c=true then tb σ H1 Q else Q (.bl false) H1
noncomputable def IG(ta:TE):TE:= λ σ H Q=>ta σ H λ x H1=>∃c,x= .bl c/\Q (.bl (!c)) H1
theorem E_{t:TE}(h:PE X a t):PE X (.BoolOp op [a] pos) t:= λ pins s σ H Q I hw=>BoolOp_one (h pins s σ H Q I hw)
theorem Fq(U:PE X a ta)(hb:PE X (.BoolOp .And (b::rest) pos) tb):PE X (.BoolOp .And (a::b::rest) pos) (Iu ta tb):=by intro pins s σ H Q I h;refine BoolOp_and (cp (U pins s σ H _ I h) λ v s1 ⟨x,H1,J,r1,C⟩=>?_);obtain⟨c,rfl,C⟩:=C;cases r1;refine wpAny_truthy_bool ?_;cases c with
 |true=>exact hb pins s1 σ H1 Q J C
 |false=>exact⟨.bl false,H1,J,rfl,C⟩
theorem Gm(J:PE X a ta):PE X (.UnaryOp .Not a pos) (IG ta):=by intro pins s σ H Q I h;refine UnaryOp_ (cp (J pins s σ H _ I h) λ v s1 ⟨x,H1,U,r1,C⟩=>?_);obtain⟨c,rfl,C⟩:=C;cases r1;exact not_of (wpAny_truthy_bool ⟨.bl (!c),H1,U,rfl,C⟩)
noncomputable def K_(t:TT)(ta tb:TE):TE:= λ σ H Q=>t σ H λ c H1=>if c=true then ta σ H1 Q else tb σ H1 Q
theorem yS(U:PT X c tA)(ha:PE X a ta)(hb:PE X b tb):PE X (.IfExp c a b pos) (K_ tA ta tb):=by intro pins s σ H Q I h;refine wpAny_IfExp (cp (U pins s σ H _ I h) λ d s1 ⟨H1,C,J⟩=>?_);cases d with
 |true=>exact ha pins s1 σ H1 Q C J
 |false=>exact hb pins s1 σ H1 Q C J
end
noncomputable def fG(K:PySem.W.Frag)(H:Hp)(a:Addr)(xs:List V):Prop:=
 Rd H a (.lst xs)\/
  ∃(o:Obj) (its:Array Value) (n:Nat),K.lookup a=some o/\o.cls= .type "list"/\o.dict=none/\o.data= .seq its n/\its.size<=sizeLine/\Vals xs its.toList
noncomputable def gx(K:PySem.W.Frag)(H:Hp)(a:Addr)(xs:List V):Prop:=
 Rd H a (.tup xs)\/
  ∃(o:Obj) (its:Array Value) (n:Nat),K.lookup a=some o/\o.cls= .type "tuple"/\o.data= .seq its n/\its.size<=sizeLine/\Vals xs its.toList
noncomputable def Ki:Value->Option V
 | .none=>some .non
 | .bool b=>some (.bl b)
 | .int i _=>some (.int i)
 | .str x _=>some (.str x)
 | .bytes b _=>some (.byt b)
 | .float b _=>some (.flt b)
 | .ref a=>some (.ref a)
 | .type n=>some (.ty n)
 |_=>none
theorem RelV.abs(r:RelV x u):Ki u=some x:=by cases x with
 |non=>cases r;rfl
 |bl _=>cases r;rfl
 |int _=>obtain⟨t,rfl⟩:=r;rfl
 |str _=>obtain⟨t,rfl⟩:=r;rfl
 |byt _=>obtain⟨t,rfl⟩:=r;rfl
 |flt _=>obtain⟨t,rfl⟩:=r;rfl
 |ref _=>cases r;rfl
 |ty _=>cases r;rfl
theorem RelV.inj{u:Value}(r:RelV x u)(q:RelV y u):x=y:=Option.some.inj (r.abs.symm.trans q.abs)
theorem Vals.inj:∀{xs ys:List V}{us:List Value},Vals xs us->Vals ys us->xs=ys
 |_,_,_,.nil,.nil=>rfl
 |_,_,_,.cons r t,.cons C t'=>by rw[r.inj C,Vals.inj t t']
section
variable {X:Cx} {pins:List (Addr × Obj)} {σ:St} {H:Hp} {s:Shared} {a:Addr} {xs ys:List V}
theorem fG.of{K:PySem.W.Frag}(h:H a=some (.lst xs)):fG K H a xs:= .inl (.inl h)
theorem gx.of{K:PySem.W.Frag}(h:H a=some (.tup xs)):gx K H a xs:= .inl (.inl h)
theorem Inv.list(I:Inv X pins σ H s)(h:fG X.K H a xs):∃its:List Value,Vals xs its/\PlainL s.heap a its.toArray/\xs.length<=sizeLine:=by
 rcases h with h|⟨o,its,n,C,J,hd,hs,hz,r⟩
 .obtain⟨z,its,n,r,e⟩:=h.ok I.hok;exact⟨its,r,⟨_,n,e,rfl,rfl,rfl⟩,z⟩
 .refine⟨its.toList,r,⟨o,n,I.kIn a o C,J,hd,by simpa using hs⟩,?_⟩;have e:=r.length;simp_all
theorem Inv.tuple(I:Inv X pins σ H s)(h:gx X.K H a xs):∃its:List Value,Vals xs its/\IsTup s.heap a its.toArray/\xs.length<=sizeLine:=by
 rcases h with h|⟨o,its,n,C,J,hs,hz,r⟩
 .obtain⟨z,its,r,p⟩:=h.ok I.hok;exact⟨its,r,p.1,z⟩
 .refine⟨its.toList,r,⟨o,I.kIn a o C,J,n,by simpa using hs⟩,?_⟩;have e:=r.length;simp_all
theorem Inv.list_inj(I:Inv X pins σ H s)(h:fG X.K H a xs)(h':fG X.K H a ys):xs=ys:=by
 obtain⟨its,r,⟨o,n,e,_,_,d⟩,_⟩:=I.list h;obtain⟨its',J,⟨o',n',C,_,_,d'⟩,_⟩:=I.list h';rw[e]at C;cases C;rw[d]at d';injection d' with U _;have:its=its':=by simpa using congrArg Array.toList U
 subst this;exact r.inj J
theorem Inv.tuple_inj(I:Inv X pins σ H s)(h:gx X.K H a xs)(h':gx X.K H a ys):xs=ys:=by
 obtain⟨its,r,⟨o,e,_,n,d⟩,_⟩:=I.tuple h;obtain⟨its',J,⟨o',C,_,n',d'⟩,_⟩:=I.tuple h';rw[e]at C;cases C;rw[d]at d';injection d' with U _;have:its=its':=by simpa using congrArg Array.toList U
 subst this;exact r.inj J
end
noncomputable abbrev Cx.wish(X:Cx)(E:Value->Shared->Prop):Cx:={ X with xe:=E }
noncomputable abbrev Cx.nox(X:Cx):Cx:=X.wish λ _ _=>False
theorem Cx.Ok.wish{X:Cx}(ok:X.Ok)(E:Value->Shared->Prop):(X.wish E).Ok:=
 ⟨ok.mod,ok.kind,ok.glob,ok.blt,ok.above,ok.inj,ok.has,ok.cab,ok.hd,ok.frames,ok.stk,ok.exf,ok.bs,ok.bsz,ok.noex,ok.exfs,ok.funs,ok.frf,ok.tb⟩
theorem Cx.Ok.unwish{X:Cx}{E:Value->Shared->Prop}(ok:(X.wish E).Ok):X.Ok:=
 ⟨ok.mod,ok.kind,ok.glob,ok.blt,ok.above,ok.inj,ok.has,ok.cab,ok.hd,ok.frames,ok.stk,ok.exf,ok.bs,ok.bsz,ok.noex,ok.exfs,ok.funs,ok.frf,ok.tb⟩
section
variable {X:Cx} {pins:List (Addr × Obj)} {σ:St} {H:Hp} {s:Shared} {E:Value->Shared->Prop}
theorem Inv.wish(I:Inv X pins σ H s)(E:Value->Shared->Prop):Inv (X.wish E) pins σ H s:=⟨I.ok.wish E,I.os,I.bare,I.base,I.loc,I.cell,I.free,I.freeC,I.pin,I.hok,I.len⟩
theorem Inv.unwish(I:Inv (X.wish E) pins σ H s):Inv X pins σ H s:=⟨I.ok.unwish,I.os,I.bare,I.base,I.loc,I.cell,I.free,I.freeC,I.pin,I.hok,I.len⟩
theorem SP.unwish(h:SP (X.wish E) pins D f s'):SP X pins D f s':=by cases f with
 |next=>obtain⟨C,H',I,q⟩:=h;exact⟨C,H',I.unwish,q⟩
 |brk=>obtain⟨C,H',I,q⟩:=h;exact⟨C,H',I.unwish,q⟩
 |cont=>obtain⟨C,H',I,q⟩:=h;exact⟨C,H',I.unwish,q⟩
 |ret u=>obtain⟨v,C,H',I,r,q⟩:=h;exact⟨v,C,H',I.unwish,r,q⟩
theorem kE.nox{st:List Stmt}{t:TS}(h:kE X.nox st t):kE X st t:= λ pins s σ H D I hw=>
 wpAny_mono (h pins s σ H D (I.wish _) hw) (λ _ _ q=>q.unwish) λ _ _ z=>False.elim z
end
section
variable {X:Cx} {st:Stmt} {rest:List Stmt} {t u:TS} {e:Expr} {te:TE} {pos:Pos}
noncomputable def D6:TS:= λ D σ H=>D.nx σ H
noncomputable def si(t u:TS):TS:= λ D σ H=>t { D with nx:=u D } σ H
theorem ur:kE X [] D6:= λ _ _ σ H _ I h=>wpAny_execs_nil ⟨σ,H,I,h⟩
theorem e_(h1:PS X st t)(h2:kE X rest u):kE X (st::rest) (si t u):=by intro pins s σ H D I h;refine wpAny_execs_cons (cp (h1 pins s σ H { D with nx:=u D } I h) λ f s1 q=>?_);cases f with
 |next=>obtain⟨C,H',J,q⟩:=q;exact h2 pins s1 C H' D J q
 |ret v=>exact q
 |brk=>exact q
 |cont=>exact q
theorem jH(h1:PS X st t):kE X [st] t:=by intro pins s σ H D I h;refine wpAny_execs_cons (cp (h1 pins s σ H D I h) λ f s1 q=>?_);cases f with
 |next=>exact wpAny_execs_nil q
 |ret v=>exact q
 |brk=>exact q
 |cont=>exact q
theorem Inv.quiet{σ:St}{H:Hp}{s:Shared}(I:Inv X pins σ H s):interactive X.env=false:=by simp[interactive,I.ok.kind]
noncomputable def IB(te:TE):TS:= λ D σ H=>te σ H λ _ H1=>D.nx σ H1
theorem tB(he:PE X e te)(hs:swapsWith e none pos.line X.env=pure false:=by rfl):PS X (.Expr e pos) (IB te):=by intro pins s σ H D I h;exact wpAny_Expr_any (cp (he pins s σ H _ I h) λ v s1 ⟨x,H1,C,U,J⟩=>⟨σ,H1,C,J⟩) I.quiet hs
noncomputable def wq(te:TE):TS:= λ D σ H=>te σ H D.rt
theorem jX(he:PE X e te):PS X (.Return (some e) pos) (wq te):=by intro pins s σ H D I h;exact wpAny_Return_some (cp (he pins s σ H _ I h) λ v s1 ⟨x,H1,C,J,U⟩=>⟨x,σ,H1,C,J,U⟩)
noncomputable def HG(c:TT)(t u:TS):TS:= λ D σ H=>c σ H λ b H1=>if b=true then t D σ H1 else u D σ H1
theorem Ep{C:TT}(hc:PT X c C)(ha:kE X a t)(hb:kE X b u):PS X (.If c a b pos) (HG C t u):=by intro pins s σ H D I h;refine wpAny_If (cp (hc pins s σ H _ I h) λ d s1 ⟨H1,J,U⟩=>?_);cases d with
 |true=>exact ha pins s1 σ H1 D J U
 |false=>exact hb pins s1 σ H1 D J U
end
noncomputable abbrev TG:=V->St->Hp->(St->Hp->Prop)->Prop
noncomputable abbrev Ef:=List V->St->Hp->(St->Hp->Prop)->Prop
noncomputable def PG(X:Cx)(target:Expr)(t:TG):Prop:=
 ∀(pins:List (Addr×Obj))(s:Shared)(σ:St)(H:Hp)(v:V)(u:Value)(Q:St->Hp->Prop),Inv X pins σ H s->RelV v u->t v σ H Q->
  wpAny (model X.prog X.w) X.A (assign target X.env u) (λ _ s'=>∃C H',Inv X pins C H' s'/\Q C H') X.xe s
noncomputable def Fm(X:Cx)(I:List Expr)(t:Ef):Prop:=
 ∀(pins:List (Addr×Obj))(s:Shared)(σ:St)(H:Hp)(vs:List V)(us:List Value)(Q:St->Hp->Prop),Inv X pins σ H s->Vals vs us->t vs σ H Q->
  wpAny (model X.prog X.w) X.A (assignInOrder ((assignEach I X.env).map (·.2)) us) (λ _ s'=>∃C H',Inv X pins C H' s'/\Q C H') X.xe s
noncomputable abbrev FG:=V->V->V->Hp->(Hp->Prop)->Prop
noncomputable def HS(X:Cx)(t:FG):Prop:=
 ∀(pins:List (Addr×Obj))(s:Shared)(σ:St)(H:Hp)(o i v:V)(C I u:Value)(Q:Hp->Prop),Inv X pins σ H s->RelV o C->RelV i I->RelV v u->t o i v H Q->
  wpAny (model X.prog X.w) X.A (setItem C I u) (λ _ s'=>∃H',Inv X pins σ H' s'/\Q H') X.xe s
section
variable {X:Cx} {pos:Pos}
noncomputable def eD(i:Nat):TG:= λ v σ H Q=>Q (σ.set i (some v)) H
theorem tw(C:X.N.Nodup)(J:X.N[i]?=some x)(hx:Loc X.env.scope x)(hf:X.fn x=true\/X.env.scope.names.lookup x=some .local:=by first | exact .inl rfl | exact .inr rfl | assumption):PG X (.Name x pos) (eD i):=by intro pins s σ H v u Q I r h;exact wpAny_assign_Name (f_ I C J hx r (λ s' U=>⟨_,H,U,h⟩) hf)
noncomputable def JI:Ef:= λ vs σ H Q=>vs=[]/\Q σ H
noncomputable def IC(t:TG)(u:Ef):Ef:= λ vs σ H Q=>∃v r,vs=v::r/\t v σ H λ C H'=>u r C H' Q
theorem BR:Fm X [] JI:=by intro pins s σ H vs us Q I r h;obtain⟨e,h⟩:=h;exact assignInOrder_nil ⟨σ,H,I,h⟩
theorem y3{t:TG}{u:Ef}(h1:PG X e t)(h2:Fm X es u)
  (hs:(assignEach (e::es) X.env).map (·.2)=assign e X.env::(assignEach es X.env).map (·.2):=by rfl):Fm X (e::es) (IC t u):=by intro pins s σ H vs us Q I r h;obtain⟨v,vr,J,h⟩:=h;subst J;cases r with
 |cons r U=>rw[hs];refine assignInOrder_cons (cp (h1 pins s σ H _ _ _ I r h) λ _ s1 ⟨C,H1,I1,q1⟩=>?_);exact h2 pins s1 C H1 _ _ Q I1 U q1
noncomputable def Ke(K:PySem.W.Frag)(n:Nat)(t:Ef):TG:= λ v σ H Q=>∃a xs,v= .ref a/\gx K H a xs/\xs.length=n/\t xs σ H Q
theorem Fp{k:Nat}{t:Ef}{n:Nat}(J:X.calm=true)(h:Fm X es t)
  (U:(assignEach es X.env).length=n:=by rfl)(C:(assignEach es X.env).findIdx? (·.1)=none:=by rfl):PG X (.Tuple es k pos) (Ke X.K n t):=by intro pins s σ H v u Q I r hw;obtain⟨a,xs,e1,hq,hl,hw⟩:=hw;subst e1;cases r;obtain⟨its,rv,ht,hz⟩:=I.tuple hq;refine assign_Tuple_tuple (I.ok.hd J) ht (by simp[U,<- hl,rv.length]) C λ h' hx=>?_;have I1:Inv X pins σ H { s with heap:=h' }:=I.kept (t':=s.toks) λ b o e=>hx b o (Nat.ne_of_lt (Heap.lt_size e)) e;exact h pins _ σ H xs _ Q I1 (by omega) hw
noncomputable def JM(to C:TE)(t:FG):TG:= λ v σ H Q=>to σ H λ o H1=>C σ H1 λ i H2=>t o i v H2 λ I=>Q σ I
theorem FU{to U:TE}{t:FG}(ho:PE X o to)(hi:PE X i U)(hs:HS X t)
  (ha:∀v,assign (.Subscript o i pos) X.env v=(do
   let C<- holding [v] (eval o X.env)
   let J<- holding [v,C] (eval i X.env)
   standAt pos
   holding [v,C,J] (setItem C J v)
   release [v,C,J] []):=by intro _;rfl):PG X (.Subscript o i pos) (JM to U t):=by intro pins s σ H v u Q I r h;rw[ha];refine wpAny_bind (wpAny_holding (cp (ho pins s σ H _ I h) λ C s1 ⟨x,H1,I1,r1,q1⟩=>?_));refine wpAny_bind (wpAny_holding (cp (hi pins s1 σ H1 _ I1 q1) λ J s2 ⟨y,H2,I2,r2,q2⟩=>?_));refine wpAny_bind (wpAny_standAt (wpAny_bind (wpAny_holding (cp (hs pins s2 σ H2 x y v C J u _ I2 r1 r2 r q2) λ _ s3 ⟨H3,I3,q3⟩=>?_))));exact wpAny_release ⟨σ,H3,I3,q3⟩
noncomputable def lP(te:TE)(g:TG):TS:= λ D σ H=>te σ H λ x H1=>g x σ H1 D.nx
theorem xG{tg e:Expr}{te:TE}{g:TG}(he:PE X e te)(C:PG X tg g)(hs:swapsWithSole [tg] e pos.line X.env=pure false:=by rfl)(hw:swappedStores [tg] e X.env=pure none:=by rfl)
  (h1:(assignEach [tg] X.env).map (·.2)=[assign tg X.env]:=by rfl):PS X (.Assign [tg] e pos) (lP te g):=by intro pins s σ H D I h;refine wpAny_Assign_stores (cp (he pins s σ H _ I h) λ v s1 ⟨x,H1,J,U,q1⟩=>?_) hs hw;rw[h1];exact cp (C pins s1 σ H1 x v _ J U q1) λ _ s2 q=>q
theorem jf(C:X.N.Nodup)(J:X.N[i]?=some x)(hx:Loc X.env.scope x)(he:PE X e te)(hs:swapsWith e (some (.Name x pos')) pos.line X.env=pure false:=by rfl)(hf:X.fn x=true\/X.env.scope.names.lookup x=some .local:=by first | exact .inl rfl | exact .inr rfl | assumption):
  PS X (.Assign [.Name x pos'] e pos) (lP te (eD i)):=by intro pins s σ H D I h;refine wpAny_Assign_Name (cp (he pins s σ H _ I h) λ v s1 ⟨y,H1,U,r1,q1⟩=>?_) hs;exact f_ U C J hx r1 (λ s2 I2=>⟨_,H1,I2,q1⟩) hf
noncomputable def Kk(i j:Nat)(ta:TA):TS:= λ D σ H=>ta σ H λ vs H1=>∃v w,vs=[v,w]/\D.nx ((σ.set i (some v)).set j (some w)) H1
theorem FF{x y:Str}{a b:Expr}{ta:TA}{px py pt:Pos}{kt k2 C}(hc:X.calm=true)(hN:X.N.Nodup)(hi:X.N[i]?=some x)(hj:X.N[j]?=some y)(aa:i≠j)
  (hx:X.env.scope.names.lookup x=some .local)(hy:X.env.scope.names.lookup y=some .local)(ha:PA X [a,b] ta)
  (hw:swappedStores [.Tuple [.Name x px,.Name y py] kt pt] (.Tuple [a,b] k2 C) X.env=pure (some [x,y]))
  (hs:swapsWithSole [.Tuple [.Name x px,.Name y py] kt pt] (.Tuple [a,b] k2 C) pos.line X.env=pure false:=by rfl):
  PS X (.Assign [.Tuple [.Name x px,.Name y py] kt pt] (.Tuple [a,b] k2 C) pos) (Kk i j ta):=by
 intro pins s σ H D I h;refine wpAny_bind (wpAny_standAt ?_);refine wpAny_bind (wpAny_pure ?_);refine wpAny_bind (Tuple_ (cp (ha _ pins s σ H _ I h) λ us s1 ⟨vs,H1,I1,r1,q1⟩=>?_));obtain⟨v,w,e1,q1⟩:=q1;subst e1;obtain⟨J,U,rfl,rv,ab⟩:∃J U,us=[J,U]/\RelV v J/\RelV w U:=by cases r1 with
  |cons p q=>cases q with
   |cons p' q'=>cases q';grind
 refine wpAny_newObj_type ?_ (by show 2<=sizeLine;decide);have I2:Inv X pins σ H1 { s1 with heap:=s1.heap.push { cls:= .type "tuple",data:= .seq [J,U].toArray } }:=I1.kept (t':=s1.toks) λ b o e=>Heap.get?_push_of_some _ e;rw[hw];refine wpAny_bind (wpAny_pure ?_);refine wpAny_bind (wpAny_rule (wpAny_bind (unpackItems_tuple (items:=#[J,U]) (I.ok.hd hc) (IsTup.new s1.heap _) λ h' ae=>?_)));have I3:=I2.kept (h':=h') (t':=s1.toks) λ b o e=>ae b o (Nat.ne_of_lt (Heap.lt_size e)) e;refine wpAny_bind (assignInOrder_cons (wpAny_bindName (f_ I3 hN hj (.inl hy) ab (λ s2 I4=>?_) (.inr hy))));refine assignInOrder_cons (wpAny_bindName (f_ I4 hN hi (.inl hx) rv (λ s3 I5=>assignInOrder_nil (wpAny_pure ?_)) (.inr hx)));rw[List.set_comm _ _ (Ne.symm aa)]at I5;exact⟨_,H1,I5,q1⟩
end
section
variable {X:Cx} {pos:Pos}
noncomputable def EI(c:TT)(tb:TS):TS:= λ D σ H=>∃W:Nat->St->Hp->Prop,(∃m,W m σ H)/\∀m σ H,W m σ H->
 c σ H λ b H1=>if b=true then∃N:St->Hp->Prop,(∀C H',N C H'->∃I,I<m/\W I C H')/\tb { D with nx:=N,ct:=N,bk:=D.nx } σ H1 else D.nx σ H1
theorem xM{tc:TT}{tb:TS}(hp:PassesOwn (model X.prog X.w) X.A X.env X.xe)(hc:PT X c tc)(hb:kE X body tb):PS X (.While c body [] pos) (EI tc tb):=by intro pins s σ H D I h;obtain⟨W,⟨m0,w0⟩,turn⟩:=h;refine wpAny_While (codeAny_whileLoop (λ n s'=>∃U H',Inv X pins U H' s'/\W n U H') ?_ m0 ⟨σ,H,I,w0⟩);rintro n s1 ⟨C,H1,I1,w1⟩;refine wpAny_passesOwn hp (cp (hc pins s1 C H1 _ I1 (turn n C H1 w1)) λ b s2 ⟨H2,I2,q2⟩=>?_);cases b with
 |true=>obtain⟨N,hN,q2⟩:=q2;refine wpAny_passesOwn hp (cp (hb pins s2 C H2 _ I2 q2) λ f s3 q3=>?_);cases f with
  |next=>obtain⟨J,H3,I3,n3⟩:=q3;grind
  |cont=>obtain⟨J,H3,I3,n3⟩:=q3;obtain⟨m',hm,w3⟩:=hN J H3 n3;exact⟨m',hm,J,H3,I3,w3⟩
  |brk=>exact q3
  |ret v=>exact q3
 |false=>exact wpAny_execs_nil ⟨C,H2,I2,q2⟩
end
structure It where
 go:Nat->Hp->Prop
 yld:Nat->Hp->V->Hp->Prop
 stop:Nat->Hp->Prop
noncomputable def gh(X:Cx)(pins:List (Addr×Obj))(H:Hp)(b:Addr):Prop:=
 H b=none/\b≠X.env.locals/\b∉X.fs/\(b∈X.ex\/X.s₀.heap.objs.size<=b)/\(∀x c,X.env.cells.lookup x=some c->c≠b)/\∀p∈X.pn++pins,p.1≠b
theorem Inv.fpOk{σ:St}{H H':Hp}{s:Shared}{b:Addr}(I:Inv X pins σ H s)(C:s.heap.objs.size<=b)(J:H' b=none):gh X pins H' b:=by
 refine⟨J,Nat.ne_of_gt (Nat.lt_of_lt_of_le I.lt C),I.nofs C,.inr (Nat.le_trans I.sz C),λ x c e z=>?_,λ p U z=>?_⟩;. obtain⟨v,q⟩:=I.cell x c e;exact absurd (Nat.lt_of_lt_of_le q.lt (by simp_all)) (Nat.lt_irrefl _)
 .exact absurd (Nat.lt_of_lt_of_le (Heap.lt_size (I.pin p U).1) (by rw[z];exact C)) (Nat.lt_irrefl _)
structure Turn (P:Program) (w:World) (K:PySem.W.Frag) (tg:Expr) (J:It) (fp:List Addr) (it:Addr) (tn:Nat->Heap->Prop):Prop where
 mem:it ∈ fp
 obj:∀i h,tn i h->∀b ∈ fp,∃o,h.get? b=some o∧∀v,o.data ≠ .cell v
 keep:∀i h h',tn i h->(∀b ∈ fp,∀o,h.get? b=some o->h'.get? b=some o)->tn i h'
 item:∀(X:Cx),X.prog=P->X.w=w->X.K=K->X.calm=true->∀(i:Nat) (pins:List (Addr × Obj)) (s:Shared) (σ:St) (H:Hp) (E:Value->Shared->Prop),Inv X pins σ H s->(∀b ∈ fp,gh X pins H b)->tn i s.heap->J.go i H ->
  wpAny (model P w) X.A (pyNext (.ref it)) (fun r s1=>∃u,r=some u ∧
   wpAny (model P w) X.A (letOwnedTupleGo tg (.ref it) u) (fun _ s2=>∃x H',Inv X pins σ H' s2∧RelV x u∧J.yld i H x H' ∧ tn (i + 1) s2.heap∧∀b ∈ fp,H' b=none) E s1) E s
 done:∀(X:Cx),X.prog=P->X.w=w->X.K=K->X.calm=true->∀(i:Nat) (pins:List (Addr × Obj)) (s:Shared) (σ:St) (H:Hp) (E:Value->Shared->Prop),Inv X pins σ H s->(∀b ∈ fp,gh X pins H b)->tn i s.heap->J.stop i H ->
  wpAny (model P w) X.A (pyNext (.ref it)) (fun r s1=>r=none∧Inv X pins σ H s1) E s
 self:∀(A:Around) (i:Nat) (s:Shared) (Q:Value->Shared->Prop) (E:Value->Shared->Prop),tn i s.heap->Q (.ref it) s->wpAny (model P w) A (pyIter (.ref it)) Q E s
noncomputable abbrev TI:=St->Hp->(It->Hp->Prop)->Prop
noncomputable def Ku(X:Cx)(pins:List (Addr×Obj))(σ:St)(tg:Expr)(R:It->Hp->Prop)(C:Value)(s2:Shared):Prop:=
 ∃(it:Addr) (fp:List Addr) (I:Nat->Heap->Prop) (J:It) (H':Hp),C= .ref it/\Inv X pins σ H' s2/\Turn X.prog X.w X.K tg J fp it I/\I 0 s2.heap/\(∀b∈fp,gh X pins H' b)/\R J H'
noncomputable def PI(X:Cx)(tg iter:Expr)(C:TI):Prop:=
 ∀(pins:List (Addr×Obj))(s:Shared)(σ:St)(H:Hp)(R:It->Hp->Prop),Inv X pins σ H s->C σ H R->
  wpAny (model X.prog X.w) X.A (eval iter X.env) (λ v s1=>wpAny (model X.prog X.w) X.A (pyIter v) (Ku X pins σ tg R) X.xe s1) X.xe s
theorem uI{s:Shared}{tg:Expr}{it:Addr}{u:Value}{o:Obj}{n:String}{vs:Array Value}{Q:Unit->Shared->Prop}(I:s.heap.get? it=some o)(J:o.cls= .type n)(hd:o.data= .fields vs)
  (U:["enumerate","zip","dict_itemiterator","dict_reverseitemiterator","odict_iterator","itertools.zip_longest","itertools.pairwise"].contains n=false)(C:Q () s):wpAny M A (letOwnedTupleGo tg (.ref it) u) Q E s:=by cases tg <;> first
  |exact wpAny_pure C
  |(cases u <;> first
    |exact wpAny_pure C
    |(refine wpAny_bind (wpAny_load I ?_);rw[J,hd];show wpAny M A (if(["enumerate","zip","dict_itemiterator","dict_reverseitemiterator","odict_iterator","itertools.zip_longest","itertools.pairwise"].contains n&&vs[0]?==some (rawInt _))=true then _ else _) Q E s;rw[if_neg (by grind)];exact wpAny_pure C))
noncomputable def IA(K:PySem.W.Frag)(a:Addr):It:=
 ⟨λ i H=>∃xs x,fG K H a xs/\xs[i]?=some x,λ i H x H'=>H'=H/\∀xs,fG K H a xs->xs[i]?=some x,λ i H=>∃xs,fG K H a xs/\xs.length<=i⟩
noncomputable def Kh(K:PySem.W.Frag)(a:Addr):It:=
 ⟨λ i H=>∃xs x,gx K H a xs/\xs[i]?=some x,λ i H x H'=>H'=H/\∀xs,gx K H a xs->xs[i]?=some x,λ i H=>∃xs,gx K H a xs/\xs.length<=i⟩
noncomputable def JH(lo:Int)(n:Nat):It:=⟨λ i _=>i<n,λ i H x H'=>H'=H/\x= .int (lo+i),λ i _=>n<=i⟩
theorem gF{K:PySem.W.Frag}{tg:Expr}(a it:Addr):Turn P w K tg (IA K a) [it] it (λ i h=>h.IsListIter it a i) where
 mem:=by simp
 obj:= λ i h st b C=>by
  have e:b=it:=by simpa using C
  subst e;obtain⟨o,e,c,d⟩:=st;exact⟨o,e,λ v z=>by rw[d]at z;cases z⟩
 keep:= λ i h h' st k=>st.at λ o e=>k it (by simp) o e
 item:=by intro X hP hw hK hc i pins s σ H E I hf st hg;subst hP hw hK;obtain⟨xs,x,U,hx⟩:=hg;obtain⟨its,rv,p,hz⟩:=I.list U;obtain⟨u,hu,ru⟩:=rv.get hx;obtain⟨f0,f1,f2,f3,f4,f5⟩:=hf it (by simp);refine wpAny_pyNext_list_item st p.isList (x:=u) (by simpa using hu) λ h' J sb=>?_;have I1:Inv X pins σ H { s with heap:=h' }:=I.turned (t':=s.toks) (λ b o C e=>(sb.2 b C).trans e) f0 f1 f3 f4 f5;obtain⟨o,e,c,d⟩:=id J;exact⟨u,rfl,uI (s:={ s with heap:=h' }) e c d (by decide) ⟨x,H,I1,ru,⟨rfl,λ ys hy=>by rw[I.list_inj hy U];exact hx⟩,J,λ b C=>(hf b C).1⟩⟩
 done:=by intro X hP hw hK hc i pins s σ H E I hf st hg;subst hP hw hK;obtain⟨xs,U,hx⟩:=hg;obtain⟨its,rv,p,hz⟩:=I.list U;obtain⟨f0,f1,f2,f3,f4,f5⟩:=hf it (by simp);have hl:=rv.length;exact wpAny_pyNext_list_end (I.ok.hd hc) st p.isList (by simp;omega) λ h' eb=>⟨rfl,I.turned (t':=s.toks) (λ b o C e=>eb b o C e) f0 f1 f3 f4 f5⟩
 self:= λ _ _ _ _ _ st h=>wpAny_pyIter_listiter st h
theorem sy{K:PySem.W.Frag}{tg:Expr}(a it:Addr):Turn P w K tg (Kh K a) [it] it (λ i h=>h.IsTupleIter it a i) where
 mem:=by simp
 obj:= λ i h st b C=>by
  have e:b=it:=by simpa using C
  subst e;obtain⟨o,e,c,d⟩:=st;exact⟨o,e,λ v z=>by rw[d]at z;cases z⟩
 keep:= λ i h h' st k=>st.at λ o e=>k it (by simp) o e
 item:=by intro X hP hw hK hc i pins s σ H E I hf st hg;subst hP hw hK;obtain⟨xs,x,U,hx⟩:=hg;obtain⟨its,rv,p,hz⟩:=I.tuple U;obtain⟨u,hu,ru⟩:=rv.get hx;obtain⟨f0,f1,f2,f3,f4,f5⟩:=hf it (by simp);refine wpAny_pyNext_tuple_item st (show s.heap.IsTuple a its.toArray from p) (x:=u) (by simpa using hu) λ h' J sb=>?_;have I1:Inv X pins σ H { s with heap:=h' }:=I.turned (t':=s.toks) (λ b o C e=>(sb.2 b C).trans e) f0 f1 f3 f4 f5;obtain⟨o,e,c,d⟩:=id J;exact⟨u,rfl,uI (s:={ s with heap:=h' }) e c d (by decide) ⟨x,H,I1,ru,⟨rfl,λ ys hy=>by rw[I.tuple_inj hy U];exact hx⟩,J,λ b C=>(hf b C).1⟩⟩
 done:=by intro X hP hw hK hc i pins s σ H E I hf st hg;subst hP hw hK;obtain⟨xs,U,hx⟩:=hg;obtain⟨its,rv,p,hz⟩:=I.tuple U;obtain⟨f0,f1,f2,f3,f4,f5⟩:=hf it (by simp);have hl:=rv.length;exact wpAny_pyNext_tuple_end (I.ok.hd hc) st (show s.heap.IsTuple a its.toArray from p) (by simp;omega) λ h' eb=>⟨rfl,I.turned (t':=s.toks) (λ b o C e=>eb b o C e) f0 f1 f3 f4 f5⟩
 self:= λ _ _ _ _ _ st h=>wpAny_pyIter_tupleiter st h
theorem q5{K:PySem.W.Frag}{tg:Expr}(it:Addr)(lo:Int)(n:Nat):Turn P w K tg (JH lo n) [it] it (λ i h=>IsRangeIter h it (lo+i*1) (n-i) 1) where
 mem:=by simp
 obj:= λ i h st b C=>by
  have e:b=it:=by simpa using C
  subst e;exact⟨_,st,λ v z=>by have z':Data.fields _=Data.cell v:=z;cases z'⟩
 keep:= λ i h h' st k=>k it (by simp) _ st
 item:=by intro X hP hw hK U i pins s σ H E I hf st hg;subst hP hw hK;obtain⟨f0,f1,f2,f3,f4,f5⟩:=hf it (by simp);have W:=Walks.range (prog:=X.prog) (w:=X.w) (I.ok.hd U) it lo 1 n;refine W.item i s _ _ hg st λ v h' tk hv J kk=>?_;obtain⟨t,rfl⟩:=hv;have I1:Inv X pins σ H { s with heap:=h',toks:=tk }:=I.turned (λ b o C e=>kk b o (by simpa using C) e) f0 f1 f3 f4 f5;refine⟨_,rfl,uI (s:={ s with heap:=h',toks:=tk }) (n:="range_iterator") J rfl rfl (by decide) ⟨.int (lo+i),H,I1,⟨t,?_⟩,⟨rfl,rfl⟩,J,λ b C=>(hf b C).1⟩⟩;simp
 done:=by intro X hP hw hK U i pins s σ H E I hf st hg;obtain⟨f0,f1,f2,f3,f4,f5⟩:=hf it (by simp);exact wpAny_pyNext_range_end (I.ok.hd U) st (by have:n<=i:=hg;omega) λ h' eb=>⟨rfl,I.turned (t':=s.toks) (λ b o C e=>eb b o C e) f0 f1 f3 f4 f5⟩
 self:= λ _ _ _ _ _ st h=>wpAny_pyIter_rangeiter st h
section
variable {X:Cx} {tg:Expr}
noncomputable def lz(K:PySem.W.Frag)(C:TE):TI:= λ σ H R=>C σ H λ x H1=>∃a,x= .ref a/\(∃xs,fG K H1 a xs)/\R (IA K a) H1
theorem Dd(J:PE X l U):PI X tg l (lz X.K U):=by
 intro pins s σ H R I h;refine cp (J pins s σ H _ I h) λ v s1 ⟨x,H1,C,r1,q1⟩=>?_;obtain⟨a,e,⟨xs,hq⟩,q⟩:=q1;subst e;cases r1;obtain⟨its,rv,p,hz⟩:=C.list hq;refine wpAny_pyIter_list p.isList ?_;refine⟨s1.heap.objs.size,[s1.heap.objs.size],_,_,H1,rfl,C.kept (t':=s1.toks) λ b o e=>Heap.get?_push_of_some _ e,gF a _,⟨_,Heap.get?_push_size _ rfl,rfl,rfl⟩,λ b hb=>?_,q⟩;have e:b=s1.heap.objs.size:=by simp_all
 subst e;exact C.fpOk (Nat.le_refl _) (C.hok.fresh (Nat.le_refl _))
theorem zD{σ:St}{H:Hp}{s:Shared}{R:It->Hp->Prop}{E:Value->Shared->Prop}{lo C:Int}{t u v:Tok}{tk:Nat}(I:Inv X pins σ H s)(h1: -(2^62)<=lo)(h2:lo<2^62)(U: -(2^62)<=C)(h4:C<2^62)
  (q:R (JH lo (C-lo).toNat) H):wpAny (model X.prog X.w) X.A (pyIter (.ref s.heap.objs.size)) (Ku X pins σ tg R) E { s with heap:=s.heap.push { cls:= .type "range",data:= .fields #[.int lo t,.int C u,.int 1 v] },toks:=tk }:=by
 refine wpAny_pyIter_range (IsRange.new ..) (small_one h1 h2 U h4) ?_;have J:Inv X pins σ H { s with heap:=s.heap.push { cls:= .type "range",data:= .fields #[.int lo t,.int C u,.int 1 v] },toks:=tk }:=I.kept λ b o e=>Heap.get?_push_of_some _ e;refine⟨(s.heap.push { cls:= .type "range",data:= .fields #[.int lo t,.int C u,.int 1 v] }).objs.size,[(s.heap.push { cls:= .type "range",data:= .fields #[.int lo t,.int C u,.int 1 v] }).objs.size],_,_,H,rfl,
  J.kept (t':=tk) λ b o e=>Heap.get?_push_of_some _ e,q5 _ lo (C-lo).toNat,?_,λ b hb=>?_,q⟩
 .have e1:lo+((0:Nat):Int)*1=lo:=by simp
  have e2:(((C-lo).toNat:Nat):Int) -((0:Nat):Int)=Builtin.Range.rangeSize lo C 1:=by rw[rangeSize_one];omega
  rw[e1,e2];exact Heap.get?_push_size _ rfl
 .have e:b=(s.heap.push { cls:= .type "range",data:= .fields #[.int lo t,.int C u,.int 1 v] }).objs.size:=by simpa using hb
  subst e;exact J.fpOk (Nat.le_refl _) (J.hok.fresh (Nat.le_refl _))
noncomputable def Hs(ta:TA):TI:= λ σ H R=>ta σ H λ vs H1=>∃j:Int,vs=[.int j]/\ -(2^62)<=j/\j<2^62/\R (JH 0 j.toNat) H1
theorem vB {a:Expr} {ta:TA} {p pos:Pos} (hg:Gl X "range") (hm:X.mg "range" = none) (ha:PA X [a] ta) (hs:starEach [a] X.env=[(false,eval a X.env)]:=by rfl):PI X tg (.Call (.Name "range" p) [a] [] pos) (Hs ta):= by
 intro pins s σ H R I h
 refine Call_ (gf I hg hm boot_range (PyProof.Rows.callWith_type1 (cp (ha pos pins s σ H _ I h) fun us s1 ⟨vs,H1,I1,r1,q1⟩=>?_) hs rfl))
 obtain ⟨j,e,q1,q2,q⟩:=q1
 subst e
 cases r1 with
 | cons r rr=>
  cases rr
  obtain ⟨t,rfl⟩:=r
  exact call_range_1 (zD I1 (by omega) (by omega) q1 q2 (by simpa using q))
noncomputable def Kr(wi:TI)(g:TG)(tb:TS):TS:= λ D σ H=>wi σ H λ J H1=>∃W:Nat->Nat->St->Hp->Prop,(∃m,W 0 m σ H1)/\∀i m σ H,W i m σ H->
 (J.stop i H/\D.nx σ H)\/(J.go i H/\∃N:St->Hp->Prop,(∀C H',N C H'->∃U,U<m/\W (i+1) U C H')/\∀x H',J.yld i H x H'->g x σ H' λ I H2=>tb { D with nx:=N,ct:=N,bk:=D.nx } I H2)
noncomputable def kD(fp:List Addr)(h:Heap):List (Addr×Obj):=fp.filterMap λ b=>(h.get? b).map λ o=>(b,o)
theorem dP{b:Addr}{o:Obj}(C:b∈fp)(e:h.get? b=some o):(b,o)∈kD fp h:=List.mem_filterMap.mpr ⟨b,C,by grind⟩
theorem vG(C:p∈kD fp h):p.1∈fp/\h.get? p.1=some p.2:=by obtain⟨b,I,e⟩:=List.mem_filterMap.mp C;cases q:h.get? b with
 |none=>grind
 |some o=>grind
theorem Inv.pinned{σ:St}{H:Hp}{s:Shared}{fp:List Addr}(I:Inv X pins σ H s)(hf:∀b∈fp,gh X pins H b)(U:∀b∈fp,∃o,s.heap.get? b=some o/\∀v,o.data≠ .cell v):Inv X (pins++kD fp s.heap) σ H s:=
 I.pins_of λ p C=>(List.mem_append.mp C).elim (λ z=>I.pin p (List.mem_append_right _ z)) λ z=>by obtain⟨J,e⟩:=vG z;obtain⟨f0,f1,f2,_⟩:=hf p.1 J;grind
theorem Inv.unpinned{σ:St}{H:Hp}{s:Shared}(I:Inv X (pins++pl) σ H s):Inv X pins σ H s:=I.pins_of λ p C=>I.pin p (List.mem_append_right _ (List.mem_append_left _ C))
theorem Ft{wi:TI}{g:TG}{tb:TS}{pos:Pos}(hp:PassesOwn (model X.prog X.w) X.A X.env X.xe)(hc:X.calm=true)(hi:PI X tg iter wi)(hg:PG X tg g)(U:kE X body tb)
  (hs:∀x,foldedSetIterable iter X.env x=pure x:=by intro _;rfl):PS X (.For tg iter body [] pos) (Kr wi g tb):=by
 intro pins s σ H D I h;refine wpAny_For (cp (hi pins s σ H _ I h) λ v s1 h1=>cp h1 λ aq s2 h2=>?_) hs;obtain⟨it,fp,tn,J,H2,e,I2,T,ai,f2,W,⟨m0,w0⟩,turn⟩:=h2;subst e
 have aa:∀{H':Hp},(∀b∈fp,H' b=none)->∀b∈fp,gh X pins H' b:= λ hn b U=>⟨hn b U,(f2 b U).2⟩;refine codeAny_forLoop_any (λ n s'=>∃i ab H',Inv X pins ab H' s'/\tn i s'.heap/\(∀b∈fp,H' b=none)/\W i n ab H') ?_ m0 ⟨0,σ,H2,I2,ai,λ b U=>(f2 b U).1,w0⟩;rintro n s3 ⟨i,ae,H3,I3,ag,ah,w3⟩;rcases turn i n ae H3 w3 with⟨stop,qn⟩|⟨go,N,hN,step⟩
 .refine wpAny_passesOwn hp (cp (T.done X rfl rfl rfl hc i pins s3 ae H3 X.xe I3 (aa ah) ag stop) λ r s4 ⟨hr,I4⟩=>?_);subst hr;exact wpAny_execs_nil ⟨ae,H3,I4,qn⟩
 .refine wpAny_passesOwn hp (cp (T.item X rfl rfl rfl hc i pins s3 ae H3 X.xe I3 (aa ah) ag go) λ r s4 ⟨u,hr,h4⟩=>?_);subst hr;refine wpAny_passesOwn hp (cp h4 λ _ s5 ⟨x,H5,I5,r5,y5,af,aj⟩=>?_);have ak:=I5.pinned (aa aj) (T.obj _ _ af);refine wpAny_passesOwn hp (cp (hg _ s5 ae H5 x u _ ak r5 (step x H5 y5)) λ _ s6 ⟨ao,H6,I6,q6⟩=>?_);refine wpAny_passesOwn hp (cp (U _ s6 ao H6 _ I6 q6) λ f s7 q7=>?_);have again:∀{C:St}{H7:Hp},Inv X (pins++kD fp s5.heap) C H7 s7->N C H7->∃m,m<n/\∃i ab H',Inv X pins ab H' s7/\tn i s7.heap/\(∀b∈fp,H' b=none)/\W i m ab H':= λ{C H7} I7 n7=>by obtain⟨m',hm,w7⟩:=hN C H7 n7;refine⟨m',hm,i+1,C,H7,I7.unpinned,T.keep _ _ _ af λ b U o e=>(I7.pin (b,o) (List.mem_append_right _ (List.mem_append_right _ (dP U e)))).1,λ b U=>?_,w7⟩;obtain⟨o,e,d⟩:=T.obj _ _ af b U;exact(I7.pin (b,o) (List.mem_append_right _ (List.mem_append_right _ (dP U e)))).2.1
  cases f with
  |next=>obtain⟨C,H7,I7,n7⟩:=q7;exact again I7 n7
  |cont=>obtain⟨C,H7,I7,n7⟩:=q7;exact again I7 n7
  |brk=>obtain⟨C,H7,I7,q7⟩:=q7;exact⟨C,H7,I7.unpinned,q7⟩
  |ret v=>obtain⟨x7,C,H7,I7,r7,q7⟩:=q7;exact⟨x7,C,H7,I7.unpinned,r7,q7⟩
end
noncomputable abbrev R2:=V->V->Hp->VK->Prop
noncomputable def gW(X:Cx)(f:Value->Value->Sem Value)(r:R2):Prop:=
 ∀(pins:List (Addr×Obj))(s:Shared)(σ:St)(H:Hp)(x y:V)(v u:Value)(Q:VK),Inv X pins σ H s->RelV x v->RelV y u->r x y H Q->
  wpAny (model X.prog X.w) X.A (f v u) (EP X pins σ Q) X.xe s
noncomputable def Kf(X:Cx)(f:Value->Sem Value)(r:V->Hp->VK->Prop):Prop:=
 ∀(pins:List (Addr×Obj))(s:Shared)(σ:St)(H:Hp)(x:V)(v:Value)(Q:VK),Inv X pins σ H s->RelV x v->r x H Q->
  wpAny (model X.prog X.w) X.A (f v) (EP X pins σ Q) X.xe s
noncomputable def cT(X:Cx)(f:Value)(r:List V->Hp->VK->Prop):Prop:=
 ∀(pins:List (Addr×Obj))(s:Shared)(σ:St)(H:Hp)(xs:List V)(us:List Value)(Q:VK),Inv X pins σ H s->Vals xs us->r xs H Q->
  wpAny (model X.prog X.w) X.A (call f us) (EP X pins σ Q) X.xe s
noncomputable def JX(X:Cx)(r:V->Hp->(Bool->Hp->Prop)->Prop):Prop:=
 ∀(pins:List (Addr×Obj))(s:Shared)(σ:St)(H:Hp)(x:V)(v:Value)(Q:Bool->Hp->Prop),Inv X pins σ H s->RelV x v->r x H Q->
  wpAny (model X.prog X.w) X.A (truthy v) (TP X pins σ Q) X.xe s
noncomputable def rN(r:R2)(ta tb:TE):TE:= λ σ H Q=>ta σ H λ x H1=>tb σ H1 λ y H2=>r x y H2 Q
noncomputable def K8(r:V->Hp->VK->Prop)(ta:TE):TE:= λ σ H Q=>ta σ H λ x H1=>r x H1 Q
noncomputable def rI(C:Int->Int->Prop)(g:Int->Int->V):R2:= λ x y H Q=>∃i j,x= .int i/\y= .int j/\C i j/\Q (g i j) H
noncomputable def Ak(g:Int->Int->V):R2:= λ x y H Q=>∃i j,x= .int i/\y= .int j/\Q (g i j) H
noncomputable def rU(g:Int->V):V->Hp->VK->Prop:= λ x H Q=>∃i,x= .int i/\Q (g i) H
section
variable {X:Cx} {a b:Expr} {ta tb:TE} {pos:Pos}
theorem FZ(U:PE X a ta)(hb:PE X b tb){pins:List (Addr×Obj)}{s:Shared}{σ:St}{H:Hp}{R:V->V->Hp->Prop}(I:Inv X pins σ H s)
  (h:ta σ H λ x H1=>tb σ H1 λ y H2=>R x y H2){Q:Value->Shared->Prop}{f:Value->Value->Sem Value}
  (hf:∀v u s2 x y H2,Inv X pins σ H2 s2->RelV x v->RelV y u->R x y H2->wpAny (model X.prog X.w) X.A (f v u) Q X.xe s2):
  wpAny (model X.prog X.w) X.A (eval a X.env) (λ v C=>wpAny (model X.prog X.w) X.A (eval b X.env) (λ u J=>wpAny (model X.prog X.w) X.A (f v u) Q X.xe J) X.xe C) X.xe s:=by refine cp (U pins s σ H _ I h) λ v s1 ⟨x,H1,I1,r1,q1⟩=>?_;refine cp (hb pins s1 σ H1 _ I1 q1) λ u s2 ⟨y,H2,I2,r2,q2⟩=>?_;grind
theorem oM(C:gW X (binaryOp op) r)(J:PE X a ta)(U:PE X b tb):PE X (.BinOp a op b pos) (rN r ta tb):=by intro pins s σ H Q I h;exact wpAny_BinOp (FZ J U I h λ v u s2 x y H2 I2 rx ry q=>C pins s2 σ H2 x y v u Q I2 rx ry q)
theorem DX(C:Kf X (unaryOp op) r)(J:PE X a ta):PE X (.UnaryOp op a pos) (K8 r ta):=by intro pins s σ H Q I h;exact UnaryOp_ (cp (J pins s σ H _ I h) λ v s1 ⟨x,H1,U,r1,q1⟩=>C pins s1 σ H1 x v Q U r1 q1)
theorem Kb{C:Int->Int->Prop}{g:Int->Int->Int}
  (rule:∀(i j:Int)(t u:Tok)(s:Shared)(Q:Value->Shared->Prop)(E:Value->Shared->Prop),C i j->Q (.int (g i j) s.toks) { s with toks:=s.toks+1 }->wpAny (model X.prog X.w) X.A (f (.int i t) (.int j u)) Q E s):
  gW X f (rI C λ i j=> .int (g i j)):=by intro pins s σ H x y v u Q I J U h;obtain⟨i,j,rfl,rfl,hc,q⟩:=h;obtain⟨t,rfl⟩:=J;obtain⟨t',rfl⟩:=U;exact rule i j t t' s _ _ hc ⟨.int (g i j),H,I.tok _,⟨_,rfl⟩,q⟩
theorem Hy{g:Int->Int->Int}
  (rule:∀(i j:Int)(t u:Tok)(s:Shared)(Q:Value->Shared->Prop)(E:Value->Shared->Prop),Q (.int (g i j) s.toks) { s with toks:=s.toks+1 }->wpAny (model X.prog X.w) X.A (f (.int i t) (.int j u)) Q E s):
  gW X f (Ak λ i j=> .int (g i j)):=by intro pins s σ H x y v u Q I C J h;obtain⟨i,j,rfl,rfl,q⟩:=h;obtain⟨t,rfl⟩:=C;obtain⟨t',rfl⟩:=J;exact rule i j t t' s _ _ ⟨.int (g i j),H,I.tok _,⟨_,rfl⟩,q⟩
theorem Gj{g:Int->Int->Bool}
  (rule:∀(i j:Int)(t u:Tok)(s:Shared)(Q:Value->Shared->Prop)(E:Value->Shared->Prop),Q (.bool (g i j)) s->wpAny (model X.prog X.w) X.A (f (.int i t) (.int j u)) Q E s):
  gW X f (Ak λ i j=> .bl (g i j)):=by intro pins s σ H x y v u Q I C J h;obtain⟨i,j,rfl,rfl,q⟩:=h;obtain⟨t,rfl⟩:=C;obtain⟨t',rfl⟩:=J;exact rule i j t t' s _ _ ⟨.bl (g i j),H,I,rfl,q⟩
noncomputable def J8(i j:Int):Prop:=0<j/\j<1073741824
noncomputable def GC(i j:Int):Prop:=(-(2^64)<i/\i<2^64)\/(-(2^64)<j/\j<2^64)
theorem GC.ok(h:GC i j):IntMulOk i j:=by
 rcases h with⟨h1,h2⟩|⟨h1,h2⟩
 .exact .of_left (intBits_le_64 h1 h2)
 .exact .of_right (intBits_le_64 h1 h2)
theorem Gn:gW X (binaryOp .Add) (Ak fun i j=>.int (i + j)):=Hy fun _ _ _ _ _ _ _ q=>add_int q
theorem Fv:gW X (binaryOp .Sub) (Ak fun i j=>.int (i - j)):=Hy fun _ _ _ _ _ _ _ q=>sub_int q
theorem FK:gW X (binaryOp .Mult) (rI GC fun i j=>.int (i * j)):=Kb fun _ _ _ _ _ _ _ hc q=>mul_int q hc.ok
theorem Dq:gW X (binaryOp .FloorDiv) (rI J8 fun i j=>.int (i / j)):=Kb fun i j _ _ _ _ _ hc q=>by
 have h1:(0:Int) < j:=hc.1
 have h2:j < 1073741824:=hc.2
 exact floordiv_int (by omega) (by grind) (.inl (PyProof.noPylong_small (by omega)))
theorem GJ:gW X (binaryOp .Mod) (rI (fun _ j=>0 < j) fun i j=>.int (i % j)):=Kb fun i j _ _ _ _ _ hc q=>by
 have h1:(0:Int) < j:=hc
 exact mod_int' (by omega) (by grind)
theorem K3{g:Int->Int}
  (rule:∀(i:Int)(t:Tok)(s:Shared)(Q:Value->Shared->Prop)(E:Value->Shared->Prop),Q (.int (g i) s.toks) { s with toks:=s.toks+1 }->wpAny (model X.prog X.w) X.A (f (.int i t)) Q E s):
  Kf X f (rU λ i=> .int (g i)):=by intro pins s σ H x v Q I C h;obtain⟨i,rfl,q⟩:=h;obtain⟨t,rfl⟩:=C;exact rule i t s _ _ ⟨.int (g i),H,I.tok _,⟨_,rfl⟩,q⟩
theorem yp:Kf X (unaryOp .USub) (rU fun i=>.int (-i)):=K3 fun _ _ _ _ _ q=>neg_int q
end
noncomputable def gZ:V->V->Bool
 | .non,.non=>true| .non,.int _=>true| .int _,.non=>true| .non,.bl _=>true| .bl _,.non=>true| .non,.str _=>true| .str _,.non=>true
 | .int _,.int _=>true| .bl _,.bl _=>true| .str _,.str _=>true| .byt _,.byt _=>true
 | .int _,.str _=>true| .str _,.int _=>true| .bl _,.str _=>true| .str _,.bl _=>true
 |_,_=>false
noncomputable def J3:R2:= λ x y H Q=>gZ x y=true/\Q (.bl (decide (x=y))) H
noncomputable def Fj:R2:= λ x y H Q=>gZ x y=true/\Q (.bl (!decide (x=y))) H
theorem sY:decide (V.int i=V.int j)=(i==j):=by grind
theorem xa:decide (V.bl i=V.bl j)=(i==j):=by grind
theorem uE:decide (V.str i=V.str j)=(i==j):=by grind
theorem tq:decide (V.byt i=V.byt j)=(i.toList==j.toList):=by rw[Bool.eq_iff_iff];simp
section
variable {X:Cx} {a b c:Expr} {ta tb tc:TE} {pos:Pos}
theorem bH{σ:St}{H:Hp}{s:Shared}{Q:VK}{k C:Bool}(I:Inv X pins σ H s)(q:Q (.bl k) H)(e:k=C):EP X pins σ Q (.bool C) s:=by subst e;exact⟨.bl k,H,I,rfl,q⟩
theorem wY:gW X (compareOp .Eq) J3:= by
 intro pins s σ H x y v u Q I rx ry h
 obtain ⟨hs,q⟩:=h
 cases x with
 | non=>
  cases rx
  cases y with
  | non=>cases ry;exact PySem.EqNone.eq_none_none (bH I q (by simp))
  | bl j=>cases ry;exact PySem.EqNone.eq_none_bool (bH I q (by simp))
  | int j=>obtain ⟨t',rfl⟩:=ry;exact PySem.EqNone.eq_none_int (bH I q (by simp))
  | str j=>obtain ⟨t',rfl⟩:=ry;exact PySem.EqNone.eq_none_str (bH I q (by simp))
  | _=>exact absurd (show false=true from hs) Bool.false_ne_true
 | bl i=>
  cases rx
  cases y with
  | non=>cases ry;exact PySem.EqNone.eq_bool_none (bH I q (by simp))
  | bl j=>cases ry;exact eq_bool (bH I q xa)
  | str j=>obtain ⟨t',rfl⟩:=ry;exact PySem.EqMixed.eq_bool_str (bH I q (by simp))
  | _=>exact absurd (show false=true from hs) Bool.false_ne_true
 | int i=>
  obtain ⟨t,rfl⟩:=rx
  cases y with
  | non=>cases ry;exact PySem.EqNone.eq_int_none (bH I q (by simp))
  | int j=>obtain ⟨t',rfl⟩:=ry;exact eq_int (bH I q sY)
  | str j=>obtain ⟨t',rfl⟩:=ry;exact PySem.EqMixed.eq_int_str (bH I q (by simp))
  | _=>exact absurd (show false=true from hs) Bool.false_ne_true
 | str i=>
  obtain ⟨t,rfl⟩:=rx
  cases y with
  | non=>cases ry;exact PySem.EqNone.eq_str_none (bH I q (by simp))
  | bl j=>cases ry;exact PySem.EqMixed.eq_str_bool (bH I q (by simp))
  | int j=>obtain ⟨t',rfl⟩:=ry;exact PySem.EqMixed.eq_str_int (bH I q (by simp))
  | str j=>obtain ⟨t',rfl⟩:=ry;exact eq_str (bH I q uE)
  | _=>exact absurd (show false=true from hs) Bool.false_ne_true
 | byt i=>
  obtain ⟨t,rfl⟩:=rx
  cases y with
  | byt j=>obtain ⟨t',rfl⟩:=ry;exact PySem.W.eq_bytes (bH I q tq)
  | _=>exact absurd (show false=true from hs) Bool.false_ne_true
 | _=>cases y <;> exact absurd (show false=true from hs) Bool.false_ne_true
theorem yM:gW X (compareOp .NotEq) Fj:= by
 intro pins s σ H x y v u Q I rx ry h
 obtain ⟨hs,q⟩:=h
 cases x with
 | non=>
  cases rx
  cases y with
  | non=>cases ry;exact PySem.EqNone.ne_none_none (bH I q (by simp))
  | bl j=>cases ry;exact PySem.EqNone.ne_none_bool (bH I q (by simp))
  | int j=>obtain ⟨t',rfl⟩:=ry;exact PySem.EqNone.ne_none_int (bH I q (by simp))
  | str j=>obtain ⟨t',rfl⟩:=ry;exact PySem.EqNone.ne_none_str (bH I q (by simp))
  | _=>exact absurd (show false=true from hs) Bool.false_ne_true
 | bl i=>
  cases rx
  cases y with
  | non=>cases ry;exact PySem.EqNone.ne_bool_none (bH I q (by simp))
  | bl j=>cases ry;exact ne_bool (bH I q (congrArg not xa))
  | str j=>obtain ⟨t',rfl⟩:=ry;exact PySem.EqMixed.ne_bool_str (bH I q (by simp))
  | _=>exact absurd (show false=true from hs) Bool.false_ne_true
 | int i=>
  obtain ⟨t,rfl⟩:=rx
  cases y with
  | non=>cases ry;exact PySem.EqNone.ne_int_none (bH I q (by simp))
  | int j=>obtain ⟨t',rfl⟩:=ry;exact ne_int (bH I q (congrArg not sY))
  | str j=>obtain ⟨t',rfl⟩:=ry;exact PySem.EqMixed.ne_int_str (bH I q (by simp))
  | _=>exact absurd (show false=true from hs) Bool.false_ne_true
 | str i=>
  obtain ⟨t,rfl⟩:=rx
  cases y with
  | non=>cases ry;exact PySem.EqNone.ne_str_none (bH I q (by simp))
  | bl j=>cases ry;exact PySem.EqMixed.ne_str_bool (bH I q (by simp))
  | int j=>obtain ⟨t',rfl⟩:=ry;exact PySem.EqMixed.ne_str_int (bH I q (by simp))
  | str j=>obtain ⟨t',rfl⟩:=ry;exact ne_str (bH I q (congrArg not uE))
  | _=>exact absurd (show false=true from hs) Bool.false_ne_true
 | byt i=>
  obtain ⟨t,rfl⟩:=rx
  cases y with
  | byt j=>obtain ⟨t',rfl⟩:=ry;exact PySem.W.ne_bytes (bH I q (congrArg not tq))
  | _=>exact absurd (show false=true from hs) Bool.false_ne_true
 | _=>cases y <;> exact absurd (show false=true from hs) Bool.false_ne_true
theorem D1:gW X (compareOp .Lt) (Ak fun i j=>.bl (decide (i < j))):=Gj fun _ _ _ _ _ _ _ q=>lt_int q
theorem HC:gW X (compareOp .LtE) (Ak fun i j=>.bl (decide (i ≤ j))):=Gj fun _ _ _ _ _ _ _ q=>le_int q
theorem Hj:gW X (compareOp .Gt) (Ak fun i j=>.bl (decide (j < i))):=Gj fun _ _ _ _ _ _ _ q=>gt_int q
theorem se(b:Expr){op:CmpOp}(h:op≠ .In:=by decide)(h2:op≠ .NotIn:=by decide):behindInMarks op b=false:=by
 have C:(op==CmpOp.In)=false:=by simp_all
 have I:(op==CmpOp.NotIn)=false:=by simp_all
 cases b <;> simp[behindInMarks,C,I]
theorem Cn(C:gW X (compareOp op) r)(J:PE X a ta)(U:PE X b tb)(hm:behindInMarks op b=false):PE X (.Compare a [op] [b] pos) (rN r ta tb):=by intro pins s σ H Q I h;exact wpAny_Compare1 (FZ J U I h λ v u s2 x y H2 I2 rx ry q=>C pins s2 σ H2 x y v u Q I2 rx ry q) hm
noncomputable def qx(t:TE):TT:= λ σ H Q=>t σ H λ x H'=>∃k,x= .bl k/\Q k H'
theorem mM(C:gW X (compareOp op) r)(J:PE X a ta)(U:PE X b tb)(hm:behindInMarks op b=false):PT X (.Compare a [op] [b] pos) (qx (rN r ta tb)):=by
 intro pins s σ H Q I h;refine wpAny_isTrue_Compare1 (cp (J pins s σ H _ I h) λ v s1 ⟨x,H1,I1,r1,q1⟩=>cp (U pins s1 σ H1 _ I1 q1) λ u s2 ⟨y,H2,I2,r2,q2⟩=>
  cp (C pins s2 σ H2 x y v u _ I2 r1 r2 q2) λ c s3 ⟨z,H3,I3,r3,k,e,q3⟩=>?_) hm;subst e;cases r3;exact wpAny_truthy_bool ⟨H3,I3,q3⟩
noncomputable def GI(r I:R2)(ta tb tc:TE):TE:= λ σ H Q=>ta σ H λ x H1=>tb σ H1 λ y H2=>r x y H2 λ z C=>∃k,z= .bl k/\
 (if k=true then tc σ C λ J U=>I y J U Q else Q (.bl false) C)
theorem wX{r U:R2}(ho:gW X (compareOp op) r)(J:gW X (compareOp C) U)(ha:PE X a ta)(hb:PE X b tb)(hc:PE X c tc)
  (hm:lastMarks [op,C] [b,c]=false:=by with_unfolding_all rfl):PE X (.Compare a [op,C] [b,c] pos) (GI r U ta tb tc):=by
 intro pins s σ H Q I h;refine Compare_chain (cp (ha pins s σ H _ I h) λ v s1 ⟨x,H1,I1,r1,q1⟩=>chain_link (cp (hb pins s1 σ H1 _ I1 q1) λ u s2 ⟨y,H2,I2,r2,q2⟩=>
  cp (ho pins s2 σ H2 x y v u _ I2 r1 r2 q2) λ d s3 ⟨z,H3,I3,r3,k,e,q3⟩=>?_)) hm;subst e;cases r3;refine wpAny_truthy_bool ?_;cases k with
 |false=>exact ite_ff ⟨.bl false,H3,I3,rfl,q3⟩
 |true=>exact ite_tt (chain_last (cp (hc pins s3 σ H3 _ I3 q3) λ w' s4 ⟨z',H4,I4,r4,q4⟩=>J pins s4 σ H4 y z' u w' Q I4 r2 r4 q4))
noncomputable def AF(K:PySem.W.Frag)(x:V)(H:Hp)(k:Bool):Prop:=
 match x with
 | .non=>k=false
 | .bl b=>k=b
 | .int i=>k=(i !=0)
 | .str y=>y.length<=sizeLine/\k=((y.length:Int)!=0)
 | .byt y=>y.size<=sizeLine/\k=((y.size:Int)!=0)
 | .ref p=>(∃xs,fG K H p xs/\k= !xs.isEmpty)\/(∃xs,gx K H p xs/\k= !xs.isEmpty)\/ ∃kvs,H p=some (.dK kvs)/\k= !kvs.isEmpty
 |_=>False
theorem rY(r:KV kvs vs):(!vs.isEmpty)= !kvs.isEmpty:=by cases r <;> rfl
theorem j0(r:Vals xs its):(!its.toArray.isEmpty)= !xs.isEmpty:=by cases r <;> simp
theorem i7:sizeLine<2^63:=by decide
theorem wO:JX X (fun x H Q=>∃k,AF X.K x H k∧Q k H):= by
 intro pins s σ H x v Q I rx h
 obtain ⟨k,e,q⟩:=h
 have hl:=i7
 have hs:sizeLine=16777216:=sizeLine_eq
 cases x with
 | non=>
  cases rx
  have e':k=false:=e
  subst e'
  exact truthy_none ⟨H,I,q⟩
 | bl b=>
  cases rx
  have e':k=b:=e
  subst e'
  exact wpAny_truthy_bool ⟨H,I,q⟩
 | int i=>
  obtain ⟨t,rfl⟩:=rx
  have e':k=(i != 0):=e
  subst e'
  exact PySem.P.truthy_int ⟨H,I,q⟩
 | str y=>
  obtain ⟨t,rfl⟩:=rx
  obtain ⟨hy,e'⟩:y.length ≤ sizeLine∧k=((y.length:Int) != 0):=e
  subst e'
  exact PySem.P.truthy_str (by omega) ⟨H,I.tok _,q⟩
 | byt y=>
  obtain ⟨t,rfl⟩:=rx
  obtain ⟨hy,e'⟩:y.size ≤ sizeLine∧k=((y.size:Int) != 0):=e
  subst e'
  exact PySem.W.truthy_bytes (by omega) ⟨H,I.tok _,q⟩
 | ref p=>
  cases rx
  have e':(∃xs,fG X.K H p xs∧k = !xs.isEmpty) ∨ (∃xs,gx X.K H p xs∧k = !xs.isEmpty) ∨ ∃kvs,H p=some (.dK kvs)∧k = !kvs.isEmpty:=e
  rcases e' with ⟨xs,hx,e'⟩ | ⟨xs,hx,e'⟩ | ⟨kvs,hx,e'⟩
  .subst e'
   obtain ⟨its,r,pl,hz⟩:=I.list hx
   have hlen:=r.length
   exact wpAny_truthy_list pl.isList (by simp only [List.size_toArray];omega) ⟨H,I.tok _,by rw [j0 r];exact q⟩
  .subst e'
   obtain ⟨its,r,pl,hz⟩:=I.tuple hx
   have hlen:=r.length
   exact truthy_tuple pl (by simp only [List.size_toArray];omega) ⟨H,I.tok _,by rw [j0 r];exact q⟩
  .subst e'
   obtain ⟨hz,hS,vs,r,m⟩:kvs.length ≤ sizeLine∧(p == sysModules)=false∧∃vs,KV kvs vs∧s.heap.DictOf (cm X.prog X.w) p vs:=I.hok p _ hx
   have hlen:kvs.length=vs.length:=Paired.length r
   exact wpAny_truthy_dict hS m (by omega) ⟨H,I.tok _,by rw [rY r];exact q⟩
 | _=>exact (show False from e).elim
theorem qp(C:PE X a ta)(he:∀whole,isTrue a X.env whole=(do let v<- whole;standAt a.pos;holding [v] (truthy v))):
  PT X a (λ σ H Q=>ta σ H λ x H'=>∃k,AF X.K x H' k/\Q k H'):=by intro pins s σ H Q I h;exact isTrue_plain (cp (C pins s σ H _ I h) λ v s1 ⟨x,H1,J,U,q1⟩=>wO pins s1 σ H1 x v Q J U q1) (he _)
theorem rJ:gW X (binaryOp .Add) (λ x y H Q=>∃i j,x= .str i/\y= .str j/\i.length+j.length<=sizeLine/\Q (.str (i++j)) H):=by intro pins s σ H x y v u Q I C J h;obtain⟨i,j,rfl,rfl,hz,q⟩:=h;obtain⟨t,rfl⟩:=C;obtain⟨t',rfl⟩:=J;exact add_str (λ t' tk=>⟨.str (i++j),H,I.tok _,⟨_,rfl⟩,q⟩) hz
theorem vals1(r:Vals [x] us):∃u,us=[u]/\RelV x u:=by cases r with
 |cons I C=>cases C;grind
theorem vals2(r:Vals [x,y] us):∃u C,us=[u,C]/\RelV x u/\RelV y C:=by cases r with
 |cons U I=>cases I with
  |cons r3 J=>cases J;grind
theorem v8(J:X.calm=true):cT X (.builtin "max") (λ xs H Q=>∃i j,xs=[.int i,.int j]/\Q (.int (if j>i then j else i)) H):=by
 intro pins s σ H xs us Q I r h;obtain⟨i,j,rfl,q⟩:=h;obtain⟨u,U,rfl,⟨t,rfl⟩,⟨t',rfl⟩⟩:=vals2 r;refine max_two_ints (I.ok.hd J) λ h' tk k=>⟨_,H,I.kept k,?_,q⟩;by_cases C:j>i;. rw[if_pos C,if_pos C];exact⟨_,rfl⟩
 .rw[if_neg C,if_neg C];exact⟨_,rfl⟩
theorem vX(J:X.calm=true):cT X (.builtin "min") (λ xs H Q=>∃i j,xs=[.int i,.int j]/\Q (.int (if j<i then j else i)) H):=by
 intro pins s σ H xs us Q I r h;obtain⟨i,j,rfl,q⟩:=h;obtain⟨u,U,rfl,⟨t,rfl⟩,⟨t',rfl⟩⟩:=vals2 r;refine min_two_ints (I.ok.hd J) λ h' tk k=>⟨_,H,I.kept k,?_,q⟩;by_cases C:j<i;. rw[if_pos C,if_pos C];exact⟨_,rfl⟩
 .rw[if_neg C,if_neg C];exact⟨_,rfl⟩
theorem we:cT X (.type "int") (λ xs H Q=>(∃i,xs=[.int i]/\Q (.int i) H)\/ ∃k,xs=[.bl k]/\Q (.int (if k then 1 else 0)) H):=by
 intro pins s σ H xs us Q I r h;rcases h with⟨i,rfl,q⟩|⟨k,rfl,q⟩
 .obtain⟨u,rfl,t,rfl⟩:=vals1 r;exact call_int_int ⟨.int i,H,I,⟨_,rfl⟩,q⟩
 .obtain⟨u,rfl,C⟩:=vals1 r;cases C;exact call_int_bool ⟨.int (if k then 1 else 0),H,I.tok _,⟨_,rfl⟩,q⟩
end
theorem RelO.some_of(r:RelO (some v) o):∃u,o=some u/\RelV v u:=by cases o with
 |none=>exact(show False from r).elim
 |some u=>exact⟨u,rfl,r⟩
structure bR (k:Nat) (A:Around):Prop where
 hd:A.handled=none
 dp:A.depth + 3 * k + 5 < recursionLimit
 un:A.units + 16 * k + 200 < cLine
 gd:A.guards=some []
theorem bR.mono{j k:Nat}{A:Around}(r:bR k A)(h:j<=k):bR j A:=⟨r.hd,by have:=r.dp;omega,by have:=r.un;omega,r.gd⟩
theorem bR.deeper(r:bR (k+1) A)(env:Env):bR k (A.deeper env):=
 ⟨r.hd,by have:=r.dp;show A.depth+1+3*k+5<_;omega,by have:=r.un;show A.units+3+16*k+200<_;omega,r.gd⟩
theorem bR.depth(r:bR k A):A.depth<recursionLimit:=by have:=r.dp;omega
noncomputable def i8:TA:= λ _ H Q=>Q [] H
noncomputable def cx(ta:TE)(I:TA):TA:= λ σ H Q=>ta σ H λ x H1=>I σ H1 λ xs H2=>Q (x::xs) H2
section
variable {X:Cx} {e:Expr} {es:List Expr} {te:TE} {t:TA} {pos:Pos}
theorem cb:PA X [] i8:= λ _ _ _ _ H Q I h=>Calls.spliced_nil ⟨[],H,I,.nil,h⟩
theorem bh(J:PE X e te)(U:PA X es t)(hs:starEach (e::es) X.env=(false,eval e X.env)::starEach es X.env:=by rfl):PA X (e::es) (cx te t):=by intro pos pins s σ H Q I h;rw[hs];show wpAny _ _ (spliced ((false,eval e X.env)::backTo pos (starEach es X.env))) _ _ s;refine Calls.spliced_cons (cp (J pins s σ H _ I h) λ u s1 ⟨x,H1,I1,r1,q1⟩=>?_);exact cp (U pos pins s1 σ H1 _ I1 q1) λ us s2 ⟨xs,H2,I2,r2,q2⟩=>⟨x::xs,H2,I2,.cons r1 r2,q2⟩
noncomputable def JL(t:TA):TE:= λ σ H Q=>t σ H λ xs H1=>xs.length<=sizeLine/\∀p,H1 p=none->Q (.ref p) (upd H1 p (.tup xs))
noncomputable def CV(t:TA):TE:= λ σ H Q=>t σ H λ xs H1=>xs.length<=sizeLine/\∀p,H1 p=none->Q (.ref p) (upd H1 p (.lst xs))
theorem Fy(h:PA X es t):PE X (.Tuple es x1 pos) (JL t):=by intro pins s σ H Q I U;refine wpAny_Tuple_spliced (cp (h pos pins s σ H _ I U) λ us s1 ⟨xs,H1,J,r,z,q⟩=>⟨by rw[<- r.length];exact z,?_⟩);have hf:H1 s1.heap.objs.size=none:=J.hok.fresh (Nat.le_refl _);refine⟨.ref s1.heap.objs.size,upd H1 s1.heap.objs.size (.tup xs),J.laid (t':=s1.toks) (λ b u e=>Heap.get?_push_of_some _ e) (Nat.le_refl _) ?_,rfl,q _ hf⟩;exact⟨z,us,r,⟨_,Heap.get?_push_size _ rfl,rfl,_,rfl⟩,_,Heap.get?_push_size _ rfl,rfl⟩
theorem iW(h:PA X es t):PE X (.List es pos) (CV t):=by intro pins s σ H Q I U;refine wpAny_List_spliced (cp (h pos pins s σ H _ I U) λ us s1 ⟨xs,H1,J,r,z,q⟩=>⟨by rw[<- r.length];exact z,?_⟩);have hf:H1 s1.heap.objs.size=none:=J.hok.fresh (Nat.le_refl _);refine⟨.ref s1.heap.objs.size,upd H1 s1.heap.objs.size (.lst xs),J.laid (t':=s1.toks) (λ b u e=>Heap.get?_push_of_some _ e) (Nat.le_refl _) ?_,rfl,q _ hf⟩;exact⟨z,us,0,r,Heap.get?_push_size _ rfl⟩
end
noncomputable abbrev Sp:=List V->Hp->VK->XK->Prop
noncomputable abbrev tQ:=List Env->Hp->Shared->XK->Value->Shared->Prop
structure u_ (P:Program) (w:World) (K:PySem.W.Frag) (mg:Str->Option Value) (base:Heap) (A:Around) (outer:List Env) (s:Shared) (H:Hp):Prop where
 frames:A.frames=some outer
 mod:Mod K mg base
 bs:∀b o,base.get? b=some o->s.heap.get? b=some o∧H b=none
 bsz:base.objs.size ≤ s.heap.objs.size
 funs:s.heap.FunFrames base outer
 frf:∀b ∈ fT outer,H b=none
 hok:gU P w H s.heap
 bare:AllBare s.gens
 tb:vz K H
noncomputable def CE(outer:List Env)(P:Program)(w:World)(H:Hp)(s:Shared)(Q:VK)(u:Value)(s':Shared):Prop:=
 ∃v H',s'.os=s.os/\AllBare s'.gens/\Un (fT outer) [] H H' s.heap s'.heap/\gU P w H' s'.heap/\RelV v u/\Q v H'
noncomputable def CR(CX:tQ)(outer:List Env)(P:Program)(w:World)(H:Hp)(s:Shared)(Q:VK)(E:XK)(r:Result)(s':Shared):Prop:=
 match r with
 | .ok (.ret u)=>CE outer P w H s Q u s'
 | .ok _=>False
 | .error e=>CX outer H s E e s'
structure cZ (P:Program) (w:World) (K:PySem.W.Frag) (mg:Str->Option Value) (base:Heap) (CX:tQ) (k:Nat) (f:Addr) (fd:FuncData) (ps:List Str) (sp:Sp):Prop where
 len:∀vs H Q E,sp vs H Q E->vs.length=ps.length
 run:∀(A:Around) (outer:List Env) (s:Shared) (H:Hp) (args:Args) (us:List Value) (vs:List V) (Q:VK) (E:XK),bR k A->u_ P w K mg base A outer s H->BindsTo s fd args (ps.zip us)->Vals vs us->sp vs H Q E ->
  codeAny (model P w) A (.call (.ref f) args) (CR CX outer P w H s Q E) s
theorem cZ.mono{K:PySem.W.Frag}{I:Str->Option Value}{base:Heap}{CX:tQ}{j k:Nat}{f:Addr}{fd:FuncData}{ps:List Str}{sp:Sp}(F:cZ P w K I base CX j f fd ps sp)(h:j<=k):
  cZ P w K I base CX k f fd ps sp:=⟨F.len,λ A outer s H args us vs Q E J=>F.run A outer s H args us vs Q E (J.mono h)⟩
theorem cZ.imp{K:PySem.W.Frag}{J:Str->Option Value}{base:Heap}{CX:tQ}{k:Nat}{f:Addr}{fd:FuncData}{ps:List Str}{sp I:Sp}(F:cZ P w K J base CX k f fd ps sp)
  (h:∀vs H Q E,I vs H Q E->sp vs H Q E):cZ P w K J base CX k f fd ps I:=
 ⟨λ vs H Q E q=>F.len vs H Q E (h _ _ _ _ q),λ A outer s H args us vs Q E U he hb hv hs=>F.run A outer s H args us vs Q E U he hb hv (h _ _ _ _ hs)⟩
section
variable {X:Cx} {pins:List (Addr × Obj)} {σ:St} {H:Hp} {s s':Shared}
theorem Inv.env0(I:Inv X pins σ H s):u_ X.prog X.w X.K X.mg X.base X.A X.stack s H:=
 ⟨I.ok.frames,I.ok.mod,I.bs,Nat.le_trans I.ok.bsz I.sz,I.stack,I.stkFree,I.hok,I.bare,I.tb⟩
theorem Inv.after(I:Inv X pins σ H s)(h:CE X.stack X.prog X.w H s Q u s'):EP X pins σ Q u s':=by obtain⟨v,H',os,bare,un,J,r,q⟩:=h;obtain⟨hh,g,d,t,U⟩:=s';obtain rfl:U=s.os:=os;exact⟨v,H',I.call (h':=hh) (g':=g) (d':=d) (t':=t) (ch:=[]) un J bare (λ b z=>absurd z (by simp)),r,q⟩
end
noncomputable def IV(sp:Sp)(I:List V)(E:XK)(t:TA):TE:= λ σ H Q=>t σ H λ vs H1=>sp (vs++I) H1 Q E
noncomputable def Binds(K:PySem.W.Frag)(fd:FuncData)(ps:List Str)(ds:List Value):Prop:=
 ∀(s:Shared)(us:List Value),K.In s.heap->(us++ds).length=ps.length->BindsTo s fd ⟨us,[]⟩ (ps.zip (us++ds))
theorem Binds.all{K:PySem.W.Frag}{fd:FuncData}{ps:List Str}(h:∀us:List Value,us.length=ps.length->bindArgs fd ⟨us,[]⟩=pure (ps.zip us)):Binds K fd ps []:= λ s us _ I=>by rw[List.append_nil]at I|-;exact .of_eq (h us I)
noncomputable def Passes(CX:tQ)(X:Cx)(E:XK):Prop:=∀(pins:List (Addr×Obj))(σ:St)(H:Hp)(s:Shared)(e:Value)(s':Shared),Inv X pins σ H s->CX X.stack H s E e s'->X.xe e s'
section
variable {X:Cx} {CX:tQ} {k:Nat} {f C:Addr} {fd:FuncData} {ps:List Str} {sp:Sp} {dvs:List V} {ds:List Value} {E:XK} {x:Str} {p pos:Pos} {e:Expr} {es:List Expr} {t:TA}
theorem FO{σ:St}{H:Hp}{s:Shared}{Q:VK}{us:List Value}{vs:List V}(F:cZ X.prog X.w X.K X.mg X.base CX k f fd ps sp)(hr:bR k X.A)(hb:Binds X.K fd ps ds)(hd:Vals dvs ds)(hx:Passes CX X E)
  (I:Inv X pins σ H s)(r:Vals vs us)(h:sp (vs++dvs) H Q E):wpAny (model X.prog X.w) X.A (call (.ref f) us) (EP X pins σ Q) X.xe s:=by
 have U:Vals (vs++dvs) (us++ds):=r.append hd;have hl:(us++ds).length=ps.length:=by rw[<- U.length];exact F.len _ _ _ _ h
 refine wpAny_call (codeAny_mono (F.run X.A X.stack s H ⟨us,[]⟩ (us++ds) (vs++dvs) Q E hr I.env0 (hb s us I.kIn hl) U h) λ r s' J=>?_);cases r with
 |error e=>exact hx pins σ H s e s' I J
 |ok fl=>cases fl with
  |ret u=>exact I.after J
  |next=>exact False.elim J
  |brk=>exact False.elim J
  |cont=>exact False.elim J
theorem jF(F:cZ X.prog X.w X.K X.mg X.base CX k f fd ps sp)(hr:bR k X.A)(hg:Gl X x)(hm:X.mg x=some (.ref f))(hk:PySem.W.keepIn X.K (.ref f)=true)(hb:Binds X.K fd ps ds)(hd:Vals dvs ds)(hx:Passes CX X E)
  (ha:PA X (e::es) t)(J:(x==("__debug__":Str))=false:=by decide)(he:starEach (e::es) X.env=(false,eval e X.env)::starEach es X.env:=by rfl)(U:(backTo pos (starEach es X.env)).any (·.1)=false:=by rfl):
  PE X (.Call (.Name x p) (e::es) [] pos) (IV sp dvs E t):=by intro pins s σ H Q I h;refine wpAny_Call_Name_kw (fz I hg hm ?_ J);refine PySem.W.callWith_K (h₀:=X.base) I.ok.mod.kin hk (cp (ha pos pins s σ H _ I h) λ us s1 ⟨vs,H1,I1,r,q⟩=>⟨I1.kIn,?_⟩) he U;exact FO F hr hb hd hx I1 r q
structure Mk (K:PySem.W.Frag) (C f:Addr):Prop where
 makes:PySem.W.makesIn K C=true
 init:PySem.W.findIn K (.ref C) "__init__" = some (some (.ref f))
 fn:PySem.W.isFn K (.ref f)=true
 kp:PySem.W.keepIn K (.ref C)=true
end
structure bT (N P:List Str) (sc:Scope):Prop where
 kind:sc.kind=.function
 co:sc.isCoroutine=false
 gen:sc.isGenerator=false
 nd:N.Nodup
 pre:N.take P.length=P
 par:∀x ∈ P,sc.names.lookup x=some .local ∨ sc.names.lookup x=some .cell
 nofree:∀y ∈ sc.names,y.2 ≠ .free
theorem mB{kindOf:Str->Option NameKind}{x:Str}:∀{binds:List (Str×Value)}{m:Str->Option Value},(∀v,(x,v)∉binds)->bindL kindOf binds m x=m x
 |[],_,_=>rfl
 |(n,v)::r,m,h=>by
  unfold bindL;rw[mB λ w hw=>h w (List.mem_cons_of_mem _ hw)];split;. grind
  rfl
theorem l6{kindOf:Str->Option NameKind}{x:Str}:∀{binds:List (Str×Value)}{m:Str->Option Value},(∀v,(x,v)∉binds)->bindC kindOf binds m x=m x
 |[],_,_=>rfl
 |(n,v)::r,m,h=>by
  unfold bindC;rw[l6 λ w hw=>h w (List.mem_cons_of_mem _ hw)];split;. rfl
  grind
theorem md{kindOf:Str->Option NameKind}{x:Str}{v:Value}:∀{P:List Str}{vs:List Value}{i:Nat}{m:Str->Option Value},P.Nodup->P[i]?=some x->vs[i]?=some v->kindOf x=some .local->
  bindL kindOf (P.zip vs) m x=some v
 |[],_,_,_,_,h,_,_=>by simp at h
 |_::_,[],_,_,_,_,h,_=>by simp at h
 |p::P,w::vs,0,m,nd,h1,h2,I=>by simp at h1 h2;subst h1 h2;show bindL kindOf ((p,w)::P.zip vs) m p=_;unfold bindL;rw[mB λ v J=>(List.nodup_cons.mp nd).1 (List.of_mem_zip J).1,if_pos I];simp
 |p::P,w::vs,i+1,m,nd,h1,h2,I=>by show bindL kindOf ((p,w)::P.zip vs) m x=_;exact md (i:=i) (List.nodup_cons.mp nd).2 (by simp_all) (by simp_all) I
theorem me{kindOf:Str->Option NameKind}{x:Str}{v:Value}:∀{P:List Str}{vs:List Value}{i:Nat}{m:Str->Option Value},P.Nodup->P[i]?=some x->vs[i]?=some v->kindOf x≠some .local->
  bindC kindOf (P.zip vs) m x=some v
 |[],_,_,_,_,h,_,_=>by simp at h
 |_::_,[],_,_,_,_,h,_=>by simp at h
 |p::P,w::vs,0,m,nd,h1,h2,I=>by simp at h1 h2;subst h1 h2;show bindC kindOf ((p,w)::P.zip vs) m p=_;unfold bindC;rw[l6 λ v J=>(List.nodup_cons.mp nd).1 (List.of_mem_zip J).1,if_neg I];simp
 |p::P,w::vs,i+1,m,nd,h1,h2,I=>by show bindC kindOf ((p,w)::P.zip vs) m x=_;exact me (i:=i) (List.nodup_cons.mp nd).2 (by simp_all) (by simp_all) I
noncomputable def start(N:List Str)(vs:List V):St:=vs.map some++List.replicate (N.length-vs.length) none
noncomputable def eE(CX:tQ)(P:Program)(w:World)(K:PySem.W.Frag)(mg:Str->Option Value)(base:Heap)(N:List Str)(qual:Str)(scope:Scope)(f:Addr)(cd:Value)(A:Around)(outer:List Env)(s:Shared)(H:Hp)(E:XK):Cx where
 prog:=P
 w:=w
 K:=K
 mg:=mg
 base:=base
 A:=A.deeper (envOfC qual scope s.heap.objs.size f cd)
 N:=N
 s₀:=s
 H₀:=H
 env:=envOfC qual scope s.heap.objs.size f cd
 outer:=outer
 stack:=envOfC qual scope s.heap.objs.size f cd::outer
 ex:=[]
 calm:=true
 fn:= λ _=>true
 pn:=[]
 xe:= λ e s'=>wpAny (model P w) (A.deeper (envOfC qual scope s.heap.objs.size f cd)) (leaving (envOfC qual scope s.heap.objs.size f cd) e) (λ _ I=>CX outer H s E e I) (λ e' I=>CX outer H s E e' I) s'
theorem qw{sc:Scope}{n:Nat}{x:Str}(h:sc.names.lookup x=some .cell):∃c,(cellsFrom n sc.names []).lookup x=some c:=by have q:=PySem.W.cellsFrom_some sc.names n [] (.inl h);exact Option.isSome_iff_exists.mp q
theorem my{P:Program}{w:World}{K:PySem.W.Frag}{mg:Str->Option Value}{base:Heap}{N ps:List Str}{qual:Str}{scope:Scope}{f:Addr}{cd:Value}{A:Around}{outer:List Env}{s s1:Shared}{H:Hp}{E:XK}{us:List Value}{vs:List V}
  (S:bT N ps scope)(hd:A.handled=none)(I:u_ P w K mg base A outer s H)(hl:vs.length=ps.length)(r:Vals vs us)
  (x:InCallC s s.heap.objs.size (bindL (envOfC qual scope s.heap.objs.size f cd).kindOf (ps.zip us) λ _=>none) (cellsFrom (s.heap.objs.size+1) scope.names []) (bindC (envOfC qual scope s.heap.objs.size f cd).kindOf (ps.zip us) λ _=>none) s1):
  Inv (eE CX P w K mg base N qual scope f cd A outer s H E) [] (start N vs) H s1:=by
 have ab:ps.length<=N.length:=by have:=congrArg List.length S.pre;rw[List.length_take]at this;omega
 obtain⟨h1,tk,rfl,hk⟩:=x.done;have J:∀b:Addr,b∉(eE CX P w K mg base N qual scope f cd A outer s H E).ex:= λ b z=>absurd (show b∈([]:List Addr)from z) (by simp);refine⟨⟨I.mod,S.kind,rfl,rfl,Nat.le_refl _,λ y z c h1 h2=>?_,λ y U=>?_,λ y c _ h=>?_,λ _=>hd,Around.frames_deeper I.frames,.inr ⟨rfl,rfl⟩,λ b z=>absurd z (J b),I.bs,I.bsz,λ b _ _=>J b,λ b z=>absurd z (J b),I.funs,I.frf,I.tb⟩,
  rfl,I.bare,Un.kept hk,⟨_,x.toInCall.ns,λ i y v h1 h2 h3=>?_⟩,λ y c h=>⟨_,x.cell y c h⟩,I.hok.fresh (Nat.le_refl _),λ y c h=>?_,λ p hp=>absurd (show p∈([]:List (Addr×Obj))from hp) (by simp),I.hok.kept hk,?_⟩;. exact name_of_addr x.apart (PySem.mem_of_lookup h1) (PySem.mem_of_lookup h2)
 .rcases U with U|U
  .exact qw U
  .exact absurd rfl (S.nofree _ (PySem.mem_of_lookup U))
 .exact Nat.le_of_lt (x.above y c (PySem.mem_of_lookup h))
 .have hi:i<vs.length:=by unfold start at h2;grind
  have ha:vs[i]?=some v:=by unfold start at h2;rw[List.getElem?_append_left (by simpa using hi),List.getElem?_map]at h2;cases e:vs[i]? with
   |none=>rw[e]at h2;cases h2
   |some a=>rw[e]at h2;cases h2;rfl
  obtain⟨u,hu,rv⟩:=r.get ha;have hp:ps[i]?=some y:=by rw[<- S.pre,List.getElem?_take_of_lt (by omega)];exact h1
  have aa:ps.Nodup:=by rw[<- S.pre];exact S.nd.sublist (List.take_sublist _ _)
  refine⟨u,rv,?_⟩;rcases S.par y (List.mem_of_getElem? hp)with k|k
  .exact .inl ⟨k,md aa hp hu k⟩
  .obtain⟨c,e⟩:=qw (n:=s.heap.objs.size+1) k;refine .inr ⟨.inl k,c,e,?_⟩;have q:=x.cell y c e;rw[me aa hp hu (by show scope.names.lookup y≠_;rw[k];decide)]at q;exact q
 .exact I.hok.fresh (Nat.le_of_lt (x.above y c (PySem.mem_of_lookup h)))
 .unfold start;show _=N.length;rw[List.length_append,List.length_map,List.length_replicate];omega
theorem DZ{K:PySem.W.Frag}{mg:Str->Option Value}{base:Heap}{k:Nat}{f:Addr}{name qual:Str}{params:Arguments}{body:List Stmt}{scope:Scope}{dV kV doc pm cdv ct oc:Value}{an od:Option Addr}
  {af:Array (Option Value)}{N ps:List Str}{sp:Sp}(lk:K.lookup f=some ⟨oc,od,.func (PySem.W.fnOf name qual params body scope dV kV doc pm an cdv ct),af⟩)(ag:PySem.W.codeIn K cdv qual=true)(S:bT N ps scope)
  (len:∀vs H Q E,sp vs H Q E->vs.length=ps.length)
  (aa:∀(A:Around)(outer:List Env)(s:Shared)(H:Hp)(vs:List V)(Q:VK)(E:XK),bR k (A.deeper (envOfC qual scope s.heap.objs.size f cdv))->sp vs H Q E->
   ∃t,kE (eE CX P w K mg base N qual scope f cdv A outer s H E) body t/\t { nx:= λ _ H'=>Q .non H',rt:=Q } (start N vs) H):
  cZ P w K mg base CX (k+1) f (PySem.W.fnOf name qual params body scope dV kV doc pm an cdv ct) ps sp:=by
 refine⟨len,λ A outer s H args us vs Q E hr e0 hb r ae=>?_⟩;have hl:=len _ _ _ _ ae;have KX:K.In s.heap:=e0.mod.kin.keeps λ b o e=>(e0.bs b o e).1;have lim:s.heap.NoLimit:=e0.mod.nolimit.keeps λ b o e=>(e0.bs b o e).1;have ab:∀y∈ps.zip us,scope.names.lookup y.1=some .local\/(scope.names.lookup y.1=some .cell/\((cellsFrom (s.heap.objs.size+1) scope.names []).lookup y.1).isSome=true):= λ⟨n,v⟩ hy=>by
  rcases S.par n (List.of_mem_zip hy).1 with q|q
  .exact .inl q
  .exact .inr ⟨q,PySem.W.cellsFrom_some _ _ _ (.inl q)⟩
 refine codeAny_call_function hr.depth (KX _ _ lk) rfl S.co S.gen rfl (PySem.W.codeRec_of KX ag) (hb _ _ _ _ ?_);refine wpAny_newFunctionEnv_cells S.kind ab λ env he s1 x=>?_;subst he;refine⟨lim.keeps x.toInCall.keep,codeAny_func ?_⟩;obtain⟨t,ht,hq⟩:=aa A outer s H vs Q E (hr.deeper _) ae;have I:Inv (eE CX P w K mg base N qual scope f cdv A outer s H E) [] (start N vs) H s1:=my S hr.hd e0 hl r x;refine wpAny_mono (ht [] s1 (start N vs) H _ I hq) (λ fl s' hs=>?_) λ e s' hs=>hs;have fin:∀{U:St}{H':Hp}{v:V}{u:Value},Inv (eE CX P w K mg base N qual scope f cdv A outer s H E) [] U H' s'->RelV v u->Q v H'->CE outer P w H s Q u s':=
  λ{U H' v u} J rv q=>⟨v,H',J.os,J.bare,J.base,J.hok,rv,q⟩;cases fl with
 |ret u=>obtain⟨v,U,H',J,rv,q⟩:=hs;exact fin J rv q
 |next=>obtain⟨U,H',J,q⟩:=hs;exact fin (v:=V.non) (u:=Value.none) J rfl q
 |brk=>obtain⟨_,_,_,q⟩:=hs;simp_all
 |cont=>obtain⟨_,_,_,q⟩:=hs;simp_all
section
variable {X:Cx} {x:Str} {p pos:Pos} {e:Expr} {es:List Expr} {t:TA} {id T:String} {r:List V->Hp->VK->Prop}
noncomputable def wA(r:List V->Hp->VK->Prop)(t:TA):TE:= λ σ H Q=>t σ H λ vs H1=>r vs H1 Q
theorem dr(hc:cT X (.builtin id) r)(hg:Gl X x)(hm:X.mg x=none)(hv:bootBuiltins x=some (.builtin id))(ha:PA X (e::es) t)(hn:x≠"__name__":=by decide)(J:(x==("__debug__":Str))=false:=by decide)
  (he:starEach (e::es) X.env=(false,eval e X.env)::starEach es X.env:=by rfl)(U:(backTo pos (starEach es X.env)).any (·.1)=false:=by rfl):PE X (.Call (.Name x p) (e::es) [] pos) (wA r t):=by intro pins s σ H Q I h;refine wpAny_Call_Name_kw (gf I hg hm hv ?_ hn J);exact PyProof.Rows.callWith_builtin1 (cp (ha pos pins s σ H _ I h) λ us s1 ⟨vs,H1,I1,r1,q1⟩=>hc pins s1 σ H1 vs us Q I1 r1 q1) he U
theorem eC(hc:cT X (.type T) r)(hg:Gl X x)(hm:X.mg x=none)(hv:bootBuiltins x=some (.type T))(ha:PA X (e::es) t)(hn:x≠"__name__":=by decide)(J:(x==("__debug__":Str))=false:=by decide)
  (he:starEach (e::es) X.env=(false,eval e X.env)::starEach es X.env:=by rfl)(U:(backTo pos (starEach es X.env)).any (·.1)=false:=by rfl):PE X (.Call (.Name x p) (e::es) [] pos) (wA r t):=by intro pins s σ H Q I h;refine wpAny_Call_Name_kw (gf I hg hm hv ?_ hn J);exact PyProof.Rows.callWith_type1 (cp (ha pos pins s σ H _ I h) λ us s1 ⟨vs,H1,I1,r1,q1⟩=>hc pins s1 σ H1 vs us Q I1 r1 q1) he U
end
end L2
namespace HT
open PySem PyProof.Rows
section
variable {prog:Program} {w:World} {A:Around} {E:Value->Shared->Prop} {s:Shared}
theorem cat_tup(ht:IsTup s.heap t vs.toArray)(hb:IsTup s.heap b ws.toArray)(hv:vs≠[])
  (h1:ws=[]->Q (.ref t) s)(h2:ws≠[]->Q (.ref s.heap.objs.size) { s with heap:=s.heap.push { cls:= .type "tuple",data:= .seq (vs++ws).toArray } })
  (hsz:vs.length+ws.length<=sizeLine):wpAny (model prog w) A (binaryOp .Add (.ref t) (.ref b)) Q E s:=by
 obtain⟨⟨cls,dd,data,sl⟩,ho,hc,n,hd⟩:=id ht;obtain⟨⟨ab,J,data2,U⟩,I,aa,n2,hd2⟩:=id hb;simp at hc hd aa hd2;subst hc hd aa hd2;by_cases hw:ws=[]
 .exact concat_meets ⟨_,ho,rfl⟩ ⟨_,I,rfl⟩ noFill_tuple_add seq_tuple_add PySem.F.slot_tuple_add PySem.F.entry_tuple_add (PySem.F.args_tuple_add_2 _ _)
   (tuple_addW1 t b vs.toArray ws.toArray n n2 dd J sl U (by simpa using hv) (by simp[hw])) ⟨ho,I,h1 hw⟩
 .refine concat_meets ⟨_,ho,rfl⟩ ⟨_,I,rfl⟩ noFill_tuple_add seq_tuple_add PySem.F.slot_tuple_add PySem.F.entry_tuple_add (PySem.F.args_tuple_add_2 _ _)
   (tuple_addW2 t b vs.toArray ws.toArray n n2 dd J sl U (by simpa using hv) (by simpa using hw) (by omega)) ⟨ho,I,?_⟩;grind
noncomputable def sIx(n d:Nat):Option Int->Nat
 |none=>d
 |some v=>if v<0 then(v+(n:Int)).toNat else min v.toNat n
theorem tN(v:Int)(n d:Nat):(if v<0 then max (v+n) 0 else min v n)=((sIx n d (some v):Nat):Int):=by show(if v<0 then max (v+n) 0 else min v n)=(((if v<0 then(v+n).toNat else min v.toNat n):Nat):Int);grind
theorem rV(lo I:Option Int)(n:Nat):Builtin.Slice.sliceAdjust lo I 1 n=(((sIx n 0 lo:Nat):Int),((sIx n n I:Nat):Int)):=by
 refine Prod.ext ?_ ?_;. cases lo with
  |none=>rfl
  |some v=>exact tN v n 0
 .cases I with
  |none=>rfl
  |some v=>exact tN v n n
theorem rP(i j:Nat):Builtin.Slice.slicePlaces i j 1=j-i:=by unfold Builtin.Slice.slicePlaces;omega
theorem slicePart_ {v:Value} {o:Option Int} {Q:Option Int->Shared->Prop} (p:IsPart v o) (h:Q o s):wpAny (model prog w) A (Builtin.Slice.slicePartIndex v) Q E s:= by
 cases p with
 | none=>exact slicePart_none h
 | int i t=>exact slicePart_int h
theorem sliceApplied_gen{lo I:Option Int}{n:Nat}{Q:Int×Int×Nat->Shared->Prop}(hs:s.heap.IsSliceOf sl vl vu .none)(pl:IsPart vl lo)(pu:IsPart vu I)
  (h:Q (((sIx n 0 lo:Nat):Int),1,sIx n n I-sIx n 0 lo) s):wpAny (model prog w) A (Builtin.Slice.sliceApplied (.ref sl) (pure n)) Q E s:=by obtain⟨os,J,aa,U⟩:=id hs;refine wpAny_bind (wpAny_bind (wpAny_field J U (x:=vl) rfl (wpAny_bind (wpAny_field J U (x:=vu) rfl (wpAny_bind (wpAny_field J U (x:= .none) rfl (wpAny_pure ?_)))))));refine wpAny_bind (slicePart_none ?_);refine wpAny_bind (slicePart_ pl (wpAny_bind (slicePart_ pu (wpAny_bind (wpAny_pure ?_)))));show wpAny _ _ (match Builtin.Slice.sliceAdjust lo I 1 n with|(lo,I)=>pure (lo,(1:Int),Builtin.Slice.slicePlaces lo I 1)) _ _ s;rw[rV lo I n];show wpAny _ _ (pure (((sIx n 0 lo:Nat):Int),1,Builtin.Slice.slicePlaces ((sIx n 0 lo:Nat):Int) ((sIx n n I:Nat):Int) 1)) _ _ s;rw[rP];exact wpAny_pure h
theorem xN(xs:Array Value)(i k:Nat):((List.range k).filterMap λ(m:Nat)=>xs[((i:Int)+m*1).toNat]?).toArray=((xs.toList.drop i).take k).toArray:=by
 have e:(λ(m:Nat)=>xs[((i:Int)+m*1).toNat]?)= λ m=>xs[i+m]?:=by
  funext m;have:((i:Int)+m*1).toNat=i+m:=by omega
  rw[this]
 have:=pick_run xs i k;have I:((λ x=>xs[x]?)∘ λ x=>i+x)= λ m=>xs[i+m]?:=rfl;simp_all
theorem getItem_tuple_cut{items:Array Value}{vl vu:Value}{lo J:Option Int}{Q:Value->Shared->Prop}(U:IsTup s.heap t items)(hs:s.heap.IsSliceOf sl vl vu .none)(pl:IsPart vl lo)(pu:IsPart vu J)
  (hw: ¬(sIx items.size 0 lo=0/\sIx items.size items.size J=items.size))
  (h:Q (.ref s.heap.objs.size) { s with heap:=s.heap.push { cls:= .type "tuple",data:= .seq ((items.toList.drop (sIx items.size 0 lo)).take (sIx items.size items.size J-sIx items.size 0 lo)).toArray } })
  (hsz:items.size<=sizeLine):wpAny (model prog w) A (getItem (.ref t) (.ref sl)) Q E s:=by
 have I:sizeOk (.seq ((items.toList.drop (sIx items.size 0 lo)).take (sIx items.size items.size J-sIx items.size 0 lo)).toArray):=by show((items.toList.drop (sIx items.size 0 lo)).take (sIx items.size items.size J-sIx items.size 0 lo)).toArray.size<=sizeLine;rw[List.size_toArray,List.length_take,List.length_drop,Array.length_toList];omega
 obtain⟨os,aa,ab,ag⟩:=id hs;have ae:s.TypeIs (.ref sl) "slice":=⟨os,aa,ab⟩;unfold getItem;try with_reducible refine wpAny_holding ?_
 refine wpAny_bind (wpAny_sequenceKey U.typeIs (by decide) ?_);refine wpAny_bind (wpAny_callSpecial?_slot (name:=Str.ofString "__getitem__") U.typeIs PyProof.Rows.slot_tuple_getitem
  (wpAny_call_entry PyProof.Rows.slot_tuple_getitem U.typeIs entry_tuple_getitem ?_ (args_tuple_getitem _ _)));show wpAny _ _ (Builtin.Tuple.tupleItemsOf (.ref t) >>= _) _ _ s;refine wpAny_bind (tupleItemsOf_ U ?_);refine wpAny_bind (wpAny_typeOf ae ?_);refine wpAny_bind (sliceApplied_gen hs pl pu ?_);have af: ¬((((sIx items.size 0 lo:Nat):Int)==0&&(1:Int)==1&&(sIx items.size items.size J-sIx items.size 0 lo)==items.size)=true):=by grind
 show wpAny _ _ (if(((sIx items.size 0 lo:Nat):Int)==0&&1==1&&(sIx items.size items.size J-sIx items.size 0 lo)==items.size)=true then _ else _) _ _ s;rw[if_neg af,xN];first
  |exact wpAny_bind (m:=Builtin.Tuple.tupleExact _) (wpAny_newObj_type (wpAny_pure ⟨_,rfl,wpAny_pure h⟩) I)
  |exact wpAny_bind (m:=Builtin.Tuple.tupleExact _) (wpAny_newObj_type (wpAny_bind (wpAny_pure (wpAny_pure ⟨_,rfl,wpAny_pure h⟩))) I)
  |exact wpAny_bind (wpAny_bind (m:=Builtin.Tuple.tupleExact _) (wpAny_newObj_type (wpAny_pure (wpAny_pure ⟨_,rfl,wpAny_pure h⟩)) I))
  |exact wpAny_bind (wpAny_bind (m:=Builtin.Tuple.tupleExact _) (wpAny_newObj_type (wpAny_pure ⟨_,rfl,wpAny_pure h⟩) I))
end
end HT
namespace L2
open PySem PySem.Spec PyProof.Rows
noncomputable abbrev TO:=St->Hp->(Option Int->Hp->Prop)->Prop
noncomputable def PO(X:Cx)(e:Option Expr)(t:TO):Prop:=
 ∀(pins:List (Addr×Obj))(s:Shared)(σ:St)(H:Hp)(Q:Option Int->Hp->Prop),Inv X pins σ H s->t σ H Q->
  wpAny (model X.prog X.w) X.A (evalPart e X.env) (λ u s'=>∃o H',Inv X pins σ H' s'/\IsPart u o/\Q o H') X.xe s
noncomputable def CN:TO:= λ _ H Q=>Q none H
noncomputable def HU(t:TE):TO:= λ σ H Q=>t σ H λ x H1=>∃i,x= .int i/\Q (some i) H1
theorem intsAre_of:∀{us:List Value},Vals (ns.map V.int) us->IntsAre us ns:=by induction ns with
 |nil=>intro us r;cases r;exact .nil
 |cons n ns I=>intro us r;cases r with
  |cons J U=>obtain⟨t,e⟩:=J;subst e;exact .cons n t (I U)
section
variable {X:Cx} {e:Expr} {te:TE} {lo hi:Option Expr} {tl th:TO} {pos p2:Pos}
theorem DJ:PO X none CN:=by intro pins s σ H Q I h;exact wpAny_pure ⟨none,H,I,.none,h⟩
theorem DD(h:PE X e te):PO X (some e) (HU te):=by intro pins s σ H Q I hw;refine cp (h pins s σ H _ I hw) λ u s1 ⟨x,H1,J,U,q1⟩=>?_;obtain⟨i,rfl,q⟩:=q1;obtain⟨t,rfl⟩:=U;exact⟨some i,H1,J,.int i t,q⟩
noncomputable def D5(X:Cx)(r:V->Option Int->Option Int->Hp->VK->Prop):Prop:=
 ∀(pins:List (Addr×Obj))(s:Shared)(σ:St)(H:Hp)(x:V)(v I J:Value)(lo hi:Option Int)(sl:Addr)(Q:VK),Inv X pins σ H s->RelV x v->s.heap.IsSliceOf sl I J .none->IsPart I lo->IsPart J hi->r x lo hi H Q->
  ∃T id,typeLookup (.type T) "__getitem__"=pure (some (.builtin id))/\s.TypeIs v T/\wpAny (model X.prog X.w) X.A (getItem v (.ref sl)) (EP X pins σ Q) X.xe s
theorem D5.or(h:D5 X r)(h':D5 X r'):D5 X (λ x lo hi H Q=>r x lo hi H Q\/r' x lo hi H Q):=by
 intro pins s σ H x v J U lo hi sl Q I rx hs pl pu q;rcases q with q|q
 .exact h pins s σ H x v J U lo hi sl Q I rx hs pl pu q
 .exact h' pins s σ H x v J U lo hi sl Q I rx hs pl pu q
noncomputable def Lh(r:V->Option Int->Option Int->Hp->VK->Prop)(te:TE)(tl th:TO):TE:= λ σ H Q=>te σ H λ x H1=>tl σ H1 λ l H2=>th σ H2 λ u I=>r x l u I Q
theorem zZ(hr:D5 X r)(he:PE X e te)(hl:PO X lo tl)(hu:PO X hi th):PE X (.Subscript e (.Slice lo hi none p2) pos) (Lh r te tl th):=by intro pins s σ H Q I h;refine Subscript_ (cp (he pins s σ H _ I h) λ v s1 ⟨x,H1,I1,r1,q1⟩=>?_);refine wpAny_Slice (cp (hl pins s1 σ H1 _ I1 q1) λ J s2 ⟨l,H2,I2,pl,q2⟩=>cp (hu pins s2 σ H2 _ I2 q2) λ U s3 ⟨u,H3,I3,pu,q3⟩=>?_);refine wpAny_pure ?_;have I4:Inv X pins σ H3 { s3 with heap:=s3.heap.push { cls:= .type "slice",data:= .fields #[J,U,.none] } }:=I3.kept (t':=s3.toks) λ b ob q=>Heap.get?_push_of_some _ q;obtain⟨T,id,hT,ht,hg⟩:=hr pins { s3 with heap:=s3.heap.push { cls:= .type "slice",data:= .fields #[J,U,.none] } } σ H3 x v J U l u s3.heap.objs.size Q I4 r1 (Heap.IsSliceOf.new ..) pl pu q3;exact tail_any (ops:=[.ref s3.heap.objs.size,v]) ht hT hg (by rfl)
noncomputable def nt(xs:List V)(lo hi:Option Int):List V:=(xs.drop (HT.sIx xs.length 0 lo)).take (HT.sIx xs.length xs.length hi-HT.sIx xs.length 0 lo)
theorem jr(xs:List V)(lo hi:Option Int):(nt xs lo hi).length<=xs.length:=by unfold nt;grind
noncomputable def JW(K:PySem.W.Frag):V->Option Int->Option Int->Hp->VK->Prop:= λ x lo hi H Q=>∃a xs,x= .ref a/\gx K H a xs/\
 ¬(HT.sIx xs.length 0 lo=0/\HT.sIx xs.length xs.length hi=xs.length)/\∀p,H p=none->Q (.ref p) (upd H p (.tup (nt xs lo hi)))
theorem Fg:D5 X (JW X.K):=by intro pins s σ H x v vl vu lo hi sl Q I rx hs pl pu h;obtain⟨a,xs,rfl,hx,hw,q⟩:=h;cases rx;obtain⟨its,r,U,hz⟩:=I.tuple hx;have hlen:its.toArray.size=xs.length:=r.length.symm;refine⟨"tuple",_,PyProof.Rows.slot_tuple_getitem.lookup,U.typeIs,?_⟩;refine HT.getItem_tuple_cut U hs pl pu (by grind) ?_ (by rw[hlen];exact hz);rw[hlen];refine⟨.ref s.heap.objs.size,_,I.laid (t':=s.toks) (o:= .tup (nt xs lo hi)) (λ b ob q=>Heap.get?_push_of_some _ q) (Nat.le_refl _) ?_,rfl,q _ (I.hok.fresh (Nat.le_refl _))⟩;exact⟨Nat.le_trans (jr xs lo hi) hz,_,(r.drop (HT.sIx xs.length 0 lo)).take (HT.sIx xs.length xs.length hi-HT.sIx xs.length 0 lo),q_.new _ _⟩
noncomputable def zT(K:PySem.W.Frag):R2:= λ x y H Q=>∃a b xs ys,x= .ref a/\y= .ref b/\gx K H a xs/\gx K H b ys/\xs≠[]/\xs.length+ys.length<=sizeLine/\
 (ys=[]->Q (.ref a) H)/\(ys≠[]->∀p,H p=none->Q (.ref p) (upd H p (.tup (xs++ys))))
theorem Vals.nil_iff(r:Vals xs us):us=[]↔xs=[]:=by cases r with
 |nil=>simp
 |cons _ _=>simp
theorem DM:gW X (binaryOp .Add) (zT X.K):=by intro pins s σ H x y v u Q I rx ry h;obtain⟨a,b,xs,ys,rfl,rfl,ha,hb,hx,hz,q1,q2⟩:=h;cases rx;cases ry;obtain⟨its,U,p1,_⟩:=I.tuple ha;obtain⟨aa,J,p2,_⟩:=I.tuple hb;refine HT.cat_tup p1 p2 (λ z=>hx (U.nil_iff.mp z)) (λ z=>⟨.ref a,H,I,rfl,q1 (J.nil_iff.mp z)⟩) (λ z=>?_) (by rw[<- U.length,<- J.length];omega);refine⟨.ref s.heap.objs.size,_,I.laid (t':=s.toks) (o:= .tup (xs++ys)) (λ b ob q=>Heap.get?_push_of_some _ q) (Nat.le_refl _) ?_,rfl,q2 (λ w=>z (J.nil_iff.mpr w)) _ (I.hok.fresh (Nat.le_refl _))⟩;exact⟨by rw[List.length_append];exact hz,_,U.append J,q_.new _ _⟩
end
noncomputable def wu(n:Nat)(i:Int):Option Nat:=if 0<=i then(if i<n then some i.toNat else none)else if-(n:Int)<=i then some (i+n).toNat else none
noncomputable def jM{α:Type}(xs:List α)(i:Int):Option α:=(wu xs.length i).bind λ j=>xs[j]?
theorem tU(h:wu n i=some j):seqIndex? i n=some j/\j<n/\ -n<=i/\i<n:=by
 unfold wu at h;by_cases h0:0<=i
 .rw[if_pos h0]at h;by_cases h1:i<n
  .rw[if_pos h1]at h;have e:i.toNat=j:=Option.some.inj h;exact⟨by rw[seqIndex_of h0 h1,e],by omega,by omega,h1⟩
  .rw[if_neg h1]at h;cases h
 .rw[if_neg h0]at h;by_cases h1: -n<=i;. rw[if_pos h1]at h;have e:(i+n).toNat=j:=Option.some.inj h;exact⟨by rw[seqIndex_neg (by omega) h1,e],by omega,h1,by omega⟩
  simp_all
theorem nR(h:jM xs i=some v):∃j,seqIndex? i xs.length=some j/\xs[j]?=some v/\j<xs.length/\ -xs.length<=i/\i<xs.length:=by unfold jM at h;cases e:wu xs.length i with
 |none=>rw[e]at h;cases h
 |some j=>obtain⟨h1,h2,I,J⟩:=tU e;grind
theorem atI_nat{j:Nat}{v:α}(h:xs[j]?=some v):jM xs j=some v:=by
 have I:j<xs.length:=(List.getElem?_eq_some_iff.mp h).1;have e:wu xs.length j=some j:=by unfold wu;rw[if_pos (by omega),if_pos (by omega)];simp
 unfold jM;grind
noncomputable def iB(b:Expr):Prop:=∀o i,subscripted b false o i=operate [o,i] (getItem o i)
noncomputable def t7(X:Cx)(r:R2):Prop:=
 ∀(value slice:Expr)(pins:List (Addr×Obj))(s:Shared)(σ:St)(H:Hp)(x y:V)(v u:Value)(Q:VK),Inv X pins σ H s->RelV x v->RelV y u->r x y H Q->
  subscripted slice false v u=operate [v,u] (getItem v u)->wpAny (model X.prog X.w) X.A (subscriptTail value slice v u) (EP X pins σ Q) X.xe s
noncomputable def K7(X:Cx)(id:String)(r:V->List V->Hp->VK->Prop):Prop:=
 ∀(pins:List (Addr×Obj))(s:Shared)(σ:St)(H:Hp)(x:V)(xs:List V)(v:Value)(us:List Value)(Q:VK),Inv X pins σ H s->RelV x v->Vals xs us->r x xs H Q->
  wpAny (model X.prog X.w) X.A (call (.builtin id) (v::us)) (EP X pins σ Q) X.xe s
section
variable {X:Cx} {a b:Expr} {ta tb:TE} {pos:Pos}
theorem t7.or(h:t7 X r)(h':t7 X r'):t7 X (λ x y H Q=>r x y H Q\/r' x y H Q):=by
 intro value slice pins s σ H x y v u Q I J U q hs;rcases q with q|q
 .exact h value slice pins s σ H x y v u Q I J U q hs
 .exact h' value slice pins s σ H x y v u Q I J U q hs
theorem tu(J:t7 X r)(U:PE X a ta)(hb:PE X b tb)(hs:iB b):PE X (.Subscript a b pos) (rN r ta tb):=by intro pins s σ H Q I h;exact Subscript_ (FZ U hb I h λ v u s2 x y H2 I2 rx ry q=>J a b pins s2 σ H2 x y v u Q I2 rx ry q (hs _ _))
noncomputable def HA(K:PySem.W.Frag):R2:= λ x y H Q=>∃p xs i v,x= .ref p/\y= .int i/\fG K H p xs/\jM xs i=some v/\Q v H
noncomputable def Jb(K:PySem.W.Frag):R2:= λ x y H Q=>∃p xs i v,x= .ref p/\y= .int i/\gx K H p xs/\jM xs i=some v/\Q v H
noncomputable def I_:R2:= λ x y H Q=>∃z i c,x= .str z/\y= .int i/\z.length<=sizeLine/\jM z.cps.toList i=some c/\Q (.str ⟨#[c]⟩) H
theorem sX:t7 X (HA X.K):=by
 intro value slice pins s σ H x y v u Q I rx ry h hs;obtain⟨p,xs,i,z,rfl,rfl,hq,he,q⟩:=h;cases rx;obtain⟨t,rfl⟩:=ry;obtain⟨its,r,pl,hz⟩:=I.list hq;obtain⟨j,h1,h2,h3,h4,h5⟩:=nR he;obtain⟨w,ew,J⟩:=r.get h2;have hl:=r.length;have hn:=i7;have fin:EP X pins σ Q w s:=⟨z,H,I,J,q⟩;by_cases h0:0<=i
 .have U:i.toNat=j:=by
   rw[seqIndex_of h0 h5]at h1;exact Option.some.inj h1
  exact item_listR pl.isList h0 (by omega) (by rw[U];simpa using ew) fin hs
 .have U:(i+its.toArray.size).toNat=j:=by rw[seqIndex_neg (by omega) h4]at h1;rw[List.size_toArray,<- hl];exact Option.some.inj h1
  exact subscriptTail_builtinR (x:=w) pl.isList.typeIs slot_list_getitem.lookup
   (wpAny_getItem_list_neg (Q:= λ r s'=>r=w/\EP X pins σ Q r s') pl.isList (by omega) (by rw[List.size_toArray] <;> omega) (by omega) (by rw[U];simpa using ew) ⟨rfl,fin⟩) hs
theorem E8:t7 X (Jb X.K):=by
 intro value slice pins s σ H x y v u Q I U ry h hs;obtain⟨p,xs,i,z,rfl,rfl,hq,he,q⟩:=h;cases U;obtain⟨t,rfl⟩:=ry;obtain⟨its,r,pl,hz⟩:=I.tuple hq;obtain⟨j,h1,h2,h3,h4,h5⟩:=nR he;obtain⟨w,ew,J⟩:=r.get h2;have hl:=r.length;have hn:=i7;have fin:EP X pins σ Q w s:=⟨z,H,I,J,q⟩;exact subscriptTail_builtinR (x:=w) pl.typeIs slot_tuple_getitem.lookup
  (getItem_tuple (j:=j) (Q:= λ r s'=>r=w/\EP X pins σ Q r s') pl (by omega) (by omega) (by simp_all) (by simpa using ew) ⟨rfl,fin⟩) hs
theorem Fe:t7 X I_:= by
 intro value slice pins s σ H x y v u Q I rx ry h hs
 obtain ⟨z,i,c,rfl,rfl,hz,he,q⟩:=h
 obtain ⟨t,rfl⟩:=rx
 obtain ⟨t',rfl⟩:=ry
 obtain ⟨j,h1,h2,h3,h4,h5⟩:=nR he
 have hl:z.cps.toList.length=z.length:=by simp [Str.length]
 rw [hl] at h1 h4 h5
 have hn:=i7
 exact tail_any (typeIs_str s z t) slot_str_getitem.lookup (getItem_str (c:=c) (by
  grind) (by rw [h1];simpa using h2) ⟨.str ⟨#[c]⟩,H,I.tok _,⟨_,rfl⟩,q⟩) hs
noncomputable def IU(K:PySem.W.Frag):R2:= λ x y H Q=>HA K x y H Q\/Jb K x y H Q\/I_ x y H Q
theorem n_:t7 X (IU X.K):=sX.or (E8.or Fe)
theorem sA(its:List Value)(n j:Nat)(u:Value):Obj.mapSeq (·.setIfInBounds j u) { cls:= .type "list",data:= .seq its.toArray n }={ cls:= .type "list",data:= .seq (its.set j u).toArray n }:=by simp[Obj.mapSeq]
theorem Inv.lst{pins:List (Addr×Obj)}{σ:St}{H:Hp}{s:Shared}{p:Addr}{xs:List V}(I:Inv X pins σ H s)(h:H p=some (.lst xs)):
  ∃(its:List Value) (n:Nat),Vals xs its/\s.heap.get? p=some { cls:= .type "list",data:= .seq its.toArray n }/\xs.length<=sizeLine:=by obtain⟨z,its,n,r,e⟩:=I.hok p _ h;grind
theorem Inv.lstUpd{σ:St}{H:Hp}{s:Shared}{p:Addr}{xs ys:List V}{its its':List Value}{n J:Nat}{f:Obj->Obj}(I:Inv X pins σ H s)(h:H p=some (.lst xs))
  (U:s.heap.get? p=some { cls:= .type "list",data:= .seq its.toArray n })(hf:f { cls:= .type "list",data:= .seq its.toArray n }={ cls:= .type "list",data:= .seq its'.toArray J })(r:Vals ys its')(hz:ys.length<=sizeLine)(t:Nat):
  Inv X pins σ (upd H p (.lst ys)) { s with heap:=s.heap.update p f,toks:=t }:=by
 have e:(s.heap.update p f).get? p=some { cls:= .type "list",data:= .seq its'.toArray J }:=by rw[Heap.get?_update_self f U (by rw[hf] <;> rfl),hf]
 refine I.write (x:=p) (e:=p) (by rw[h];trivial) (.inl rfl) (λ b u hb q=>(Heap.get?_update_other _ _ (Ne.symm hb)).trans q) ⟨_,e⟩ ?_;exact⟨hz,its',J,r,e⟩
noncomputable def HR:V->V->V->Hp->(Hp->Prop)->Prop:= λ o i v H Q=>∃p xs k j,o= .ref p/\i= .int k/\H p=some (.lst xs)/\wu xs.length k=some j/\Q (upd H p (.lst (xs.set j v)))
theorem set_list:HS X HR:=by
 intro pins s σ H o i v ov iv u Q I ro ri rv h;obtain⟨p,xs,k,j,rfl,rfl,hp,hj,q⟩:=h;cases ro;obtain⟨t,rfl⟩:=ri;obtain⟨its,n,r,J,hz⟩:=I.lst hp;obtain⟨h1,h2,h3,h4⟩:=tU hj;have hl:=r.length;have hn:=i7;have I':Inv X pins σ (upd H p (.lst (xs.set j v))) { s with heap:=s.heap.update p (Obj.mapSeq (·.setIfInBounds j u)) }:=
  I.lstUpd hp J (sA its n j u) (r.set rv j) (by rw[List.length_set];exact hz) s.toks;by_cases h0:0<=k
 .have U:k.toNat=j:=by rw[seqIndex_of h0 h4]at h1;exact Option.some.inj h1
  exact PySem.W.ki_setAt J h0 (by omega) (by rw[List.size_toArray,<- hl];exact h4) (by rw[U];exact⟨_,I',q⟩)
 .have U:(k+its.toArray.size).toNat=j:=by rw[seqIndex_neg (by omega) h3]at h1;simp_all
  exact PySem.W.ki_setBack J (by omega) (by rw[List.size_toArray,<- hl];exact h3) (by omega) (by rw[U];exact⟨_,I',q⟩)
theorem nG(lo hi:Option Int)(n:Nat):(sliceBounds lo hi none n).1=((HT.sIx n 0 lo:Nat):Int)/\(sliceBounds lo hi none n).2.1=((HT.sIx n n hi:Nat):Int)/\(sliceBounds lo hi none n).2.2=1:=by
 refine⟨?_,?_,rfl⟩;. cases lo with
  |none=>simp[sliceBounds,HT.sIx]
  |some i=>simp only[sliceBounds,HT.sIx];grind
 .cases hi with
  |none=>simp[sliceBounds,HT.sIx]
  |some i=>simp only[sliceBounds,HT.sIx];grind
theorem lL(its:List Value)(lo hi:Option Int):slicePick its.toArray lo hi none=((its.drop (HT.sIx its.length 0 lo)).take (HT.sIx its.length its.length hi-HT.sIx its.length 0 lo)).toArray:=by obtain⟨h1,h2,J⟩:=nG lo hi its.toArray.size;unfold slicePick;rw[h1,h2,J];simp only[sliceRange_one,pick_run] <;> rfl
noncomputable def Ka(K:PySem.W.Frag):V->Option Int->Option Int->Hp->VK->Prop:= λ x lo hi H Q=>∃a xs,x= .ref a/\fG K H a xs/\∀p,H p=none->Q (.ref p) (upd H p (.lst (nt xs lo hi)))
theorem B0:D5 X (Ka X.K):=by intro pins s σ H x v vl vu lo hi sl Q I rx hs pl pu h;obtain⟨a,xs,rfl,hx,q⟩:=h;cases rx;obtain⟨its,r,J,hz⟩:=I.list hx;have hlen:=r.length;refine⟨"list",_,slot_list_getitem.lookup,J.isList.typeIs,?_⟩;refine wpAny_getItem_list_slice J.isList hs pl pu .none (by simp) ?_ (by simp_all);rw[lL,<- hlen];refine⟨.ref s.heap.objs.size,_,I.laid (t':=s.toks) (o:= .lst (nt xs lo hi)) (λ b ob q=>Heap.get?_push_of_some _ q) (Nat.le_refl _) ?_,rfl,q _ (I.hok.fresh (Nat.le_refl _))⟩;exact⟨Nat.le_trans (jr xs lo hi) hz,_,0,(r.drop (HT.sIx xs.length 0 lo)).take (HT.sIx xs.length xs.length hi-HT.sIx xs.length 0 lo),Heap.get?_push_size _ rfl⟩
noncomputable def gm:V->Bool
 | .non=>true
 | .bl _=>true
 | .int _=>true
 | .str _=>true
 |_=>false
noncomputable def t9:V->V->Bool
 | .non,.non=>true
 | .bl a,.bl b=>a==b
 | .bl a,.int b=>(if a then 1 else 0)==b
 | .int a,.bl b=>a==(if b then 1 else 0)
 | .int a,.int b=>a==b
 | .str a,.str b=>a==b
 |_,_=>false
theorem ze {A:Around} {s:Shared} {y x:V} {u v:Value} (ry:RelV y u) (rx:RelV x v) (fy:gm y=true) (fx:gm x=true):SeqAt.EqAt A s u v (t9 y x):= by
 cases y with
 | non=>
  cases ry
  cases x with
  | non=>cases rx;exact SeqAt.EqAt.same _
  | bl b=>cases rx;exact SeqAt.EqAt.none_bool b
  | int b=>obtain ⟨t,rfl⟩:=rx;exact SeqAt.EqAt.none_int b t
  | str b=>obtain ⟨t,rfl⟩:=rx;exact SeqAt.EqAt.none_str b t
  | _=>exact absurd (show false=true from fx) Bool.false_ne_true
 | bl a=>
  cases ry
  cases x with
  | non=>cases rx;exact SeqAt.EqAt.bool_none a
  | bl b=>cases rx;exact SeqAt.EqAt.bool_bool a b
  | int b=>obtain ⟨t,rfl⟩:=rx;exact SeqAt.EqAt.bool_int a b t
  | str b=>obtain ⟨t,rfl⟩:=rx;exact SeqAt.EqAt.bool_str a b t
  | _=>exact absurd (show false=true from fx) Bool.false_ne_true
 | int a=>
  obtain ⟨t',rfl⟩:=ry
  cases x with
  | non=>cases rx;exact SeqAt.EqAt.int_none a t'
  | bl b=>cases rx;exact SeqAt.EqAt.int_bool a t' b
  | int b=>obtain ⟨t,rfl⟩:=rx;exact SeqAt.EqAt.int_int a t' b t
  | str b=>obtain ⟨t,rfl⟩:=rx;exact SeqAt.EqAt.int_str a t' b t
  | _=>exact absurd (show false=true from fx) Bool.false_ne_true
 | str a=>
  obtain ⟨t',rfl⟩:=ry
  cases x with
  | non=>cases rx;exact SeqAt.EqAt.str_none a t'
  | bl b=>cases rx;exact SeqAt.EqAt.str_bool a t' b
  | int b=>obtain ⟨t,rfl⟩:=rx;exact SeqAt.EqAt.str_int a t' b t
  | str b=>obtain ⟨t,rfl⟩:=rx;exact SeqAt.EqAt.str_str a t' b t
  | _=>exact absurd (show false=true from fx) Bool.false_ne_true
 | _=>exact absurd (show false=true from fy) Bool.false_ne_true
noncomputable def qY(x:V)(u:Value):Bool:=match u with
 | .none=>t9 .non x
 | .bool b=>t9 (.bl b) x
 | .int i _=>t9 (.int i) x
 | .str z _=>t9 (.str z) x
 |_=>false
theorem yh{x y:V}{u:Value}(r:RelV y u)(f:gm y=true):qY x u=t9 y x:=by cases y with
 |non=>cases r;rfl
 |bl b=>cases r;rfl
 |int i=>obtain⟨t,rfl⟩:=r;rfl
 |str z=>obtain⟨t,rfl⟩:=r;rfl
 |_=>exact absurd (show false=true from f) Bool.false_ne_true
theorem ik:∀{xs:List V}{us:List Value},Vals xs us->xs.all gm=true->us.any (qY x)=xs.any λ y=>t9 y x
 |_,_,.nil,_=>rfl
 |y::xs,u::us,.cons r t,f=>by rw[List.all_cons,Bool.and_eq_true]at f;rw[List.any_cons,List.any_cons,yh r f.1,ik t f.2]
theorem fU{x:V}{v:Value}(J:RelV x v)(fx:gm x=true):∀{xs:List V}{us:List Value},Vals xs us->xs.all gm=true->∀u∈us,SeqAt.EqAt A s u v (qY x u)
 |_,_,.nil,_=> λ u I=>by grind
 |y::xs,u::us,.cons r t,f=> λ U I=>by
  rw[List.all_cons,Bool.and_eq_true]at f;rcases List.mem_cons.mp I with rfl|I
  .rw[yh r f.1];exact ze r J f.1 fx
  .exact fU J fx t f.2 U I
noncomputable def G7(x:V)(xs:List V):Bool:=xs.any λ y=>t9 y x
noncomputable def J9(K:PySem.W.Frag)(neg:Bool):R2:= λ x y H Q=>∃p xs,y= .ref p/\(fG K H p xs\/gx K H p xs)/\gm x=true/\xs.all gm=true/\Q (.bl (if neg then !G7 x xs else G7 x xs)) H
theorem uV:gW X (compareOp .In) (J9 X.K false):=by
 intro pins s σ H x y v u Q I U ry h;obtain⟨p,xs,rfl,J,fx,fs,q⟩:=h;cases ry;rcases J with J|J
 .obtain⟨its,r,pl,hz⟩:=I.list J;refine SeqAt.in_listAt (qY x) pl.isList (λ w hw=>fU U fx r fs w (by simpa using hw)) ⟨.bl _,H,I,rfl,?_⟩;rw[show its.toArray.any (qY x)=its.any (qY x)by simp,ik r fs];exact q
 .obtain⟨its,r,pl,hz⟩:=I.tuple J;refine SeqAt.in_tupleAt (qY x) pl (λ w hw=>fU U fx r fs w (by simpa using hw)) ⟨.bl _,H,I,rfl,?_⟩;rw[show its.toArray.any (qY x)=its.any (qY x)by simp,ik r fs];exact q
theorem ot:gW X (compareOp .NotIn) (J9 X.K true):=by
 intro pins s σ H x y v u Q I U ry h;obtain⟨p,xs,rfl,J,fx,fs,q⟩:=h;cases ry;rcases J with J|J
 .obtain⟨its,r,pl,hz⟩:=I.list J;refine SeqAt.notIn_listAt (qY x) pl.isList (λ w hw=>fU U fx r fs w (by simpa using hw)) ⟨.bl _,H,I,rfl,?_⟩;rw[show its.toArray.any (qY x)=its.any (qY x)by simp,ik r fs];exact q
 .obtain⟨its,r,pl,hz⟩:=I.tuple J;refine SeqAt.notIn_tupleAt (qY x) pl (λ w hw=>fU U fx r fs w (by simpa using hw)) ⟨.bl _,H,I,rfl,?_⟩;rw[show its.toArray.any (qY x)=its.any (qY x)by simp,ik r fs];exact q
theorem iw:cT X (.builtin "len") (λ xs H Q=>∃p ys,xs=[.ref p]/\(fG X.K H p ys\/gx X.K H p ys)/\Q (.int ys.length) H):=by
 intro pins s σ H xs us Q I r h;obtain⟨p,ys,rfl,J,q⟩:=h;obtain⟨u,rfl,rx⟩:=vals1 r;cases rx;have hn:=i7;rcases J with J|J
 .obtain⟨its,U,pl,hz⟩:=I.list J;have hlen:=U.length;exact Calls.call_len_list pl.isList (by simp <;> omega) ⟨.int ys.length,H,I.tok _,⟨s.toks+1,by rw[List.size_toArray,hlen]⟩,q⟩
 .obtain⟨its,U,pl,hz⟩:=I.tuple J;have hlen:=U.length;exact len_tuple pl (by simp <;> omega) ⟨.int ys.length,H,I.tok _,⟨s.toks+1,by rw[List.size_toArray,hlen]⟩,q⟩
theorem nF:cT X (.type "list") (λ xs H Q=>∃p ys,xs=[.ref p]/\(fG X.K H p ys\/gx X.K H p ys)/\∀l,H l=none->Q (.ref l) (upd H l (.lst ys))):=by
 intro pins s σ H xs us Q I r h;obtain⟨p,ys,rfl,hq,q⟩:=h;obtain⟨u,rfl,rx⟩:=vals1 r;cases rx;have fin:∀(its:List Value),Vals ys its->ys.length<=sizeLine->∀(h':Heap)(J:Nat),(∀b o',s.heap.get? b=some o'->h'.get? b=some o')->
   h'.get? s.heap.objs.size=some { cls:= .type "list",dict:=none,data:= .seq its.toArray J,slots:=#[] }->EP X pins σ Q (.ref s.heap.objs.size) { s with heap:=h' }:= λ its U hz h' J kp e=>
  ⟨.ref s.heap.objs.size,_,I.laid (t':=s.toks) kp (Nat.le_refl _) (show cu X.prog X.w _ h' _ (.lst ys)from⟨hz,its,J,U,e⟩),rfl,q _ (I.hok.fresh (Nat.le_refl _))⟩;rcases hq with hq|hq
 .obtain⟨its,U,pl,hz⟩:=I.list hq;have hlen:=U.length;obtain⟨o,ho,hc,n,hd⟩:=pl.isList;exact call_list_seq p (.inl rfl) ho hc hd (λ h' J kp e=>fin its U hz h' J kp e) (by simp_all)
 .obtain⟨its,U,pl,hz⟩:=I.tuple hq;have hlen:=U.length;obtain⟨o,ho,hc,n,hd⟩:=pl;exact call_list_seq p (.inr rfl) ho hc hd (λ h' J kp e=>fin its U hz h' J kp e) (by simp <;> omega)
theorem lH:cT X (.type "tuple") (λ xs H Q=>∃p ys,xs=[.ref p]/\((fG X.K H p ys/\∀l,H l=none->Q (.ref l) (upd H l (.tup ys)))\/(gx X.K H p ys/\Q (.ref p) H))):=by
 intro pins s σ H xs us Q I r h;obtain⟨p,ys,rfl,h⟩:=h;obtain⟨u,rfl,rx⟩:=vals1 r;cases rx;rcases h with⟨J,q⟩|⟨J,q⟩
 .obtain⟨its,U,pl,hz⟩:=I.list J;have hlen:=U.length;refine call_tuple_list pl.isList (λ h' kp=>?_) (by simp_all);have I1:Inv X pins σ H { s with heap:=h' }:=I.kept (t':=s.toks) kp;have I2:Inv X pins σ (upd H h'.objs.size (.tup ys)) { s with heap:=h'.push { cls:= .type "tuple",data:= .seq its.toArray } }:=
   I1.laid (t':=s.toks) (λ b o e=>Heap.get?_push_of_some _ e) (Nat.le_refl _) (show cu X.prog X.w _ _ _ (.tup ys)from⟨hz,its,U,q_.new _ _⟩);exact⟨.ref h'.objs.size,_,I2,rfl,q _ (I1.hok.fresh (Nat.le_refl _))⟩
 .obtain⟨its,U,pl,hz⟩:=I.tuple J;exact call_tuple_same pl ⟨.ref p,H,I,rfl,q⟩
noncomputable def KI(K:PySem.W.Frag)(T:String)(x:V)(H:Hp):Prop:=match x with
 | .str _=>T="str"
 | .int _=>T="int"
 | .ref p=>(T="list"/\∃xs,fG K H p xs)\/(T="tuple"/\∃o,K.lookup p=some o/\o.cls= .type "tuple"/\o.dict=none)\/
   (T="dict"/\((∃kvs,H p=some (.dK kvs))\/ ∃kvs,H p=some (.dT kvs)))\/(T="set"/\∃S n,H p=some (.set S n))
 |_=>False
theorem GG{σ:St}{H:Hp}{s:Shared}{T:String}{x:V}{v:Value}(I:Inv X pins σ H s)(r:RelV x v)(ty:KI X.K T x H):
  s.TypeIs v T/\∀a,v= .ref a->∃ob,s.heap.get? a=some ob/\ob.dict=none:=by cases x with
 |str z=>obtain⟨t,rfl⟩:=r;cases(show T="str" from ty);exact⟨typeIs_str s z t,λ _ e=>nomatch e⟩
 |int i=>obtain⟨t,rfl⟩:=r;cases(show T="int" from ty);exact⟨typeIs_int s i t,λ _ e=>nomatch e⟩
 |ref p=>
  cases r;rcases ty with⟨rfl,xs,hq⟩|⟨rfl,o,J,hc,hd⟩|⟨rfl,J⟩|⟨rfl,S,n,J⟩
  .obtain⟨its,_,pl,_⟩:=I.list hq;refine⟨pl.isList.typeIs,λ a e=>?_⟩;obtain⟨o,n,e,c,hd,_⟩:=pl;simp_all
  .refine⟨⟨o,I.kIn p o J,hc⟩,λ a e=>?_⟩;cases e;exact⟨o,I.kIn _ o J,hd⟩
  .have z:∃o,s.heap.get? p=some o/\o.ExactDict:=by
    rcases J with⟨kvs,J⟩|⟨kvs,J⟩
    .obtain⟨_,_,_,_,o,_,_,e,ex,_⟩:=I.hok p _ J;exact⟨o,e,ex⟩
    .obtain⟨_,_,_,_,o,_,_,e,ex,_⟩:=I.hok p _ J;exact⟨o,e,ex⟩
   obtain⟨o,e,ex⟩:=z;refine⟨⟨o,e,ex.1⟩,λ a U=>?_⟩;cases U;exact⟨o,e,ex.2.1⟩
  .obtain⟨o,_,_,_,e,ex,_⟩:=I.hok p _ J;refine⟨⟨o,e,ex.1⟩,λ a U=>?_⟩;cases U;exact⟨o,e,ex.2.1⟩
 |_=>exact False.elim ty
noncomputable def KH(K:PySem.W.Frag)(T:String)(r:V->List V->Hp->VK->Prop)(to:TE)(t:TA):TE:= λ σ H Q=>to σ H λ x H1=>KI K T x H1/\t σ H1 λ xs H2=>r x xs H2 Q
variable {o e:Expr} {es:List Expr} {to:TE} {t:TA} {name:Str} {apos cpos:Pos} {T id:String} {r:V->List V->Hp->VK->Prop}
theorem yC(pa:PlainAttrs T)(slot:Slot T name id)(ae:typeOf (.builtin id)=pure (.type "method_descriptor"))(hm:K7 X id r)(ho:PE X o to)(ha:PA X (e::es) t)
  (J:attributeBase o name X.env (eval o X.env)=eval o X.env:=by rfl)
  (aa:((backTo cpos (starEach (e::es) X.env)).all (λ x=> !x.1)&&(backToKw cpos (keywordEach [] X.env)).all (λ x=>x.1.isSome)
   &&decide ((e::es).length+([]:List Keyword).length+(if([]:List Keyword).isEmpty then 0 else 1)<30))=true:=by rfl)
  (U:(apos.endLine==cpos.line)=true:=by rfl)(hs:starEach (e::es) X.env=(false,eval e X.env)::starEach es X.env:=by rfl)(ab:(backTo cpos (starEach es X.env)).any (·.1)=false:=by rfl):
  PE X (.Call (.Attribute o name apos) (e::es) [] cpos) (KH X.K T r to t):=by intro pins s σ H Q I h;refine wpAny_Call_method_late J aa U rfl (cp (ho pins s σ H _ I h) λ v s1 ⟨x,H1,I1,r1,ty,q1⟩=>?_);obtain⟨h1,h2⟩:=GG I1 r1 ty;refine⟨T,id,pa,slot,ae,h1,h2,?_⟩;have hA:=ha cpos pins s1 σ H1 _ I1 q1;rw[hs]at hA|-;refine Calls.callWith_builtin (by grind) (Calls.evalArgs_plain ?_);exact cp hA λ us s2 ⟨vs,H2,I2,r2,q2⟩=>hm pins s2 σ H2 x vs v us Q I2 r1 r2 q2
end
noncomputable def JR(X:Cx)(id:String)(r:V->List V->Hp->VK->Prop):Prop:=
 ∀(pins:List (Addr×Obj))(s:Shared)(σ:St)(H:Hp)(x:V)(xs:List V)(v:Value)(us:List Value)(Q:VK),Inv X pins σ H s->RelV x v->Vals xs us->r x xs H Q->
  wpAny (model X.prog X.w) X.A (call (.builtin id) (v::us)) (EP X pins σ Q) X.xe s
theorem Vals.one:∀{x:V}{us:List Value},Vals [x] us->∃u,us=[u]/\RelV x u
 |_,_,.cons r .nil=>⟨_,rfl,r⟩
theorem Vals.two{x y:V}{us:List Value}(h:Vals [x,y] us):∃u v,us=[u,v]/\RelV x u/\RelV y v:=by cases h with|cons r t=>cases t with|cons q t=>cases t;exact⟨_,_,rfl,r,q⟩
theorem Vals.eraseIdx:∀{xs:List V}{us:List Value}(i:Nat),Vals xs us->Vals (xs.eraseIdx i) (us.eraseIdx i)
 |_,_,_,.nil=> .nil
 |_,_,0,.cons _ t=>t
 |_,_,i+1,.cons r t=> .cons r (Vals.eraseIdx i t)
section
variable {X:Cx} {pins:List (Addr × Obj)} {σ:St} {H:Hp} {s:Shared} {l:Addr} {xs ys:List V}
theorem Inv.lset{its its':List Value}{n:Nat}{f:Array Value->Array Value}{t':Nat}(I:Inv X pins σ H s)(J:H l=some (.lst xs))
  (e:s.heap.get? l=some { cls:= .type "list",data:= .seq its.toArray n })(hf:f its.toArray=its'.toArray)(U:Vals ys its')(hz:ys.length<=sizeLine):
  Inv X pins σ (upd H l (.lst ys)) { s with heap:=s.heap.update l (Obj.mapSeq f),toks:=t' }:=by have q:=PySem.IsL.update e f;rw[hf]at q;refine I.write (x:=l) (e:=l) (by rw[J];exact trivial) (.inl rfl) (λ b' u hb hu=>(Heap.get?_update_other s.heap (Obj.mapSeq f) (Ne.symm hb)).trans hu) ⟨_,q⟩ ?_;exact⟨hz,its',_,U,q⟩
theorem Inv.lnew(I:Inv X pins σ H s)(J:Vals ys its)(hz:ys.length<=sizeLine):
  Inv X pins σ (upd H s.heap.objs.size (.lst ys)) { s with heap:=s.heap.push { cls:= .type "list",data:= .seq its.toArray },toks:=t' }:=
 I.laid (λ _ _ q=>Heap.get?_push_of_some _ q) (Nat.le_refl _) ⟨hz,its,0,J,Heap.get?_push_size _ rfl⟩
theorem Inv.fresh(I:Inv X pins σ H s):H s.heap.objs.size=none:=I.hok.fresh (Nat.le_refl _)
theorem Inv.lstM(I:Inv X pins σ H s)(J:H l=some (.lst xs)):xs.length<=sizeLine/\∃(its:List Value) (n:Nat),Vals xs its/\xs.length=its.length/\s.heap.get? l=some { cls:= .type "list",data:= .seq its.toArray n }:=by obtain⟨z,its,n,r,e⟩:=I.hok l _ J;exact⟨z,its,n,r,r.length,e⟩
end
section
variable {X:Cx}
noncomputable def C6:V->List V->Hp->VK->Prop:= λ x vs H Q=>∃l xs y,x= .ref l/\vs=[y]/\H l=some (.lst xs)/\xs.length<sizeLine/\Q .non (upd H l (.lst (xs++[y])))
theorem l5:JR X "list.append" C6:=by intro pins s σ H x vs v us Q I U rv h;obtain⟨l,xs,y,rfl,rfl,J,hz,q⟩:=h;cases U;obtain⟨u,rfl,ru⟩:=rv.one;obtain⟨z,its,n,r,hl,e⟩:=I.lstM J;refine call_meets F.slot_list_append ⟨_,e,rfl⟩ F.entry_list_append (F.args_list_append_2 _ _) (PySem.list_append l its.toArray n u (by rw[List.size_toArray];omega)) ⟨e,?_⟩;refine⟨.non,_,I.lset (its':=its++[u]) J e (by simp) (r.append (.cons ru .nil)) ?_,rfl,q⟩;grind
noncomputable def Fc:V->List V->Hp->VK->Prop:= λ x vs H Q=>∃l xs i k y,x= .ref l/\vs=[.int i]/\H l=some (.lst xs)/\ -(2^63)<=i/\i<2^63/\seqIndex? i xs.length=some k/\xs[k]?=some y/\Q y (upd H l (.lst (xs.eraseIdx k)))
theorem xT:JR X "list.pop" Fc:=by
 intro pins s σ H x vs v us Q I rx rv h;obtain⟨l,xs,i,k,y,rfl,rfl,U,h1,h2,hk,hy,q⟩:=h;cases rx;obtain⟨u,rfl,ru⟩:=rv.one;obtain⟨t,rfl⟩:=ru;obtain⟨z,its,n,r,hl,e⟩:=I.lstM U;obtain⟨w,hw,J⟩:=r.get hy;refine call_meets F.slot_list_pop ⟨_,e,rfl⟩ F.entry_list_pop (F.args_list_pop_2 _ _)
  (MeetsSeq.list_pop_at l its.toArray n i t k w (fitsIndex_both h1 h2) (by rw[List.size_toArray,<- hl];exact hk) (by rw[<- Array.getElem?_toList];exact hw) (by rw[List.size_toArray];omega)) ⟨e,?_⟩;refine⟨y,_,I.lset (its':=its.eraseIdx k) U e ?_ (r.eraseIdx k) ?_,J,q⟩;. rw[List.eraseIdxIfInBounds_toArray]
 grind
end
section
set_option maxRecDepth 100000 in
end
end L2
namespace Att
open PySem PySem.W PySem.Calls PyProof.Rows
theorem jz:∀(ns:List Int)(vs:List Value),WellAll P h vs (ns.map WData.int)->IntsAre vs ns:=by intro ns;induction ns with
 |nil=>intro vs w;cases w;exact .nil
 |cons n ns I=>intro vs w;cases w with
  |cons a b=>cases a;exact .cons _ _ (I _ b)
theorem wc{l:OpenLaw}{n:Nat}(hn:l.most=some n){P:Params}{h:Heap}{args:List WData}{vals:List Value}
  (I:l.row.toRowW.claim.pre args=true)(aa:WellAll P h vals args):
  ∃a vs ns,vals=[Value.ref a]/\args=[WData.list (ns.map WData.int)]/\h.get? a=some { cls:= .type "list",data:= .seq vs.toArray }/\IntsAre vs ns/\ns.length<=n:=by
 have ab:WShape.hasAll [] args [.list .int]=true:=(pre_splitW I).1;have hc:l.pre.holds [] { args:=args }=true:=(pre_splitW I).2;obtain⟨d,r,rfl,h1,h2⟩:=hasAllW_cons ab;obtain rfl:=hasAllW_nil h2;obtain⟨xs,rfl,h3⟩:=hasW_list h1;obtain⟨ns,rfl⟩:=items_int h3;have hlen:ns.length<=n:=by
  have U:(WTm.not (.lt (.lit (.int n)) (.len (.arg 0)))).holds [] { args:=[.list (ns.map .int)] }=true:=by have U:=(holds_andW hc).1;rw[hn]at U;exact U
  have h5:=condW_of U (w_not (w_lt w_lit (w_len_list (w_arg rfl))));simp_all
 cases aa with
 |cons w1 w2=>cases w2;cases w1 with
  |list ho J=>exact⟨_,_,ns,rfl,rfl,ho,jz ns _ J,hlen⟩
theorem wb(l:OpenLaw)(args:List WData):l.row.toRowW.claim.post args (.bool true) args=true:=
 postW_of (r:=l.row.toRowW) (X:=(true==true))
  (show WShape.has [] (.bool true) .bool=true by rfl)
  (show(WTm.eq .res (.lit (.bool true))).value [] { args:=args,res:=some (.bool true),after:=args }=some (.bool (true==true))from w_eq_bool (w_res rfl) w_lit) rfl
theorem attach_call{l:OpenLaw}{n:Nat}{q:Program}{loose:List Str}{XP:(Str->Option Value)->Heap->Prop}{YP:World->Heap->Prop}{d:DefRec}
  (hn:l.most=some n)(ae:d.params.defaults=[])
  (call:∀(w:World)(J I:Shared)(mg mb:Str->Option Value)(U:Addr)(o:Obj)(pm cd doc:Value)(a:Addr)(vs:List Value)(ns:List Int),
   Ground q loose [] XP w J mg mb I.heap->YP w I.heap->
   I.heap.get? U=some o->o.data= .func (docDef d.name d.params d.body d.scope pm cd doc)->I.heap.CodeRec cd d.name->mg d.name=some (.ref U)->
   I.heap.get? a=some { cls:= .type "list",data:= .seq vs.toArray }->IntsAre vs ns->ns.length<=n->I.gens=#[]->
   codeAny (model l.prog w) callerA (.call (.ref U) ⟨[.ref a],[]⟩) (λ r s'=>r= .ok (.ret (.bool true))/\OldK I.heap s'.heap/\s'.os=I.os/\AllBare s'.gens) I):
  WalkO q loose XP YP l.row.toRowW d [] (λ f vs=>PySem.call f vs):=by intro w J I mg mb G Y U o pm cd doc dV kV ho hd af hD ag hg args vals as aa ai aj ah ak;obtain rfl:dV= .none:=Dflts.none hD ae;obtain rfl:kV= .none:=Dflts.noKw hD;obtain⟨a,vs,ns,rfl,rfl,ab,hints,hlen⟩:=wc hn aa ah;refine enter_call (codeAny_mono (call w J I mg mb U o pm cd doc a vs ns G Y ho (fd_plain hd) af ag ab hints hlen hg) λ r s' hq=>?_);obtain⟨rfl,h2,h3,h4⟩:=hq;exact⟨.inl ⟨.bool true,.bool true,[],rfl,λ _=>rfl,.bool true,wb l _,λ _=>⟨List.Pairwise.nil,λ _ hm=>(nomatch hm)⟩⟩,h2,h3,h4⟩
end Att
namespace L2
open PySem PySem.Spec PyProof.Rows
theorem gM:∀{vs:List Value}{ns:List Int},IntsAre vs ns->Vals (ns.map V.int) vs
 |_,_,.nil=> .nil
 |_,_,.cons n t h=> .cons ⟨t,rfl⟩ (gM h)
noncomputable def Gx(H:Hp):Prop:=∀b,H b=none\/ ∃o xs,H b=some (.frz o (.lst xs))
theorem yP{K:PySem.W.Frag}{mg mb:Str->Option Value}{CX:tQ}{k:Nat}{fa a:Addr}{fd:FuncData}{x:Str}{sp:Sp}{I:Shared}{vs:List Value}{ns:List Int}
  (KX:K.In I.heap)(af:I.heap.Ns mainGlobals mg)(U:I.heap.Ns builtinsNs mb)(ao:∀x:Str,x≠"__name__"->mb x=bootBuiltins x)(ag:I.heap.NoLimit)(hg:I.gens=#[])
  (ha:I.heap.get? a=some { cls:= .type "list",data:= .seq vs.toArray })(hi:IntsAre vs ns)(hl:ns.length<=sizeLine)(hr:bR k callerA)
  (F:∀base:Heap,K.In base->base.Ns mainGlobals mg->cZ P w K mg base CX k fa fd [x] sp)(ab:∀(s:Shared)(u:Value),BindsTo s fd ⟨[u],[]⟩ [(x,u)])
  (ae:PySem.W.tabIn K nQ=none)
  (aq:∀H:Hp,Gx H->fG K H a (ns.map V.int)->sp [.ref a] H (λ v _=>v= .bl true) λ _ _ _=>False)
  (ar:∀H e s',CX [] H I (λ _ _ _=>False) e s'->False):
  codeAny (model P w) callerA (.call (.ref fa) ⟨[.ref a],[]⟩) (λ r s'=>r= .ok (.ret (.bool true))/\OldK I.heap s'.heap/\s'.os=I.os/\AllBare s'.gens) I:=by
 have rv:=gM hi;have ah:=hi.length
 have core:∀H:Hp,Gx H->fG K H a (ns.map V.int)->gU P w H I.heap->(∀b,H b≠none->b=a)->(H a≠none->K.lookup a=none)->
   codeAny (model P w) callerA (.call (.ref fa) ⟨[.ref a],[]⟩) (λ r s'=>r= .ok (.ret (.bool true))/\OldK I.heap s'.heap/\s'.os=I.os/\AllBare s'.gens) I:=by
  intro H hO hS ai hA hK;have J:∀{b:Addr}{o:Obj},I.heap.get? b=some o->H b=none->(nH I.heap H).get? b=some o:= λ e n=>yX e n;have au:∀{b:Addr}{o:Obj}{es:Array DictEntry}{ep:Nat},I.heap.get? b=some o->o.data= .dict es ep->H b=none:= λ{b o es ep} e d=>by grind
  have aa:∀{b:Addr}{m:Str->Option Value},I.heap.Ns b m->(nH I.heap H).Ns b m:= λ{b m}⟨o,es,ep,e,d,r⟩=>⟨o,es,ep,J e (au e d),d,r⟩;have aj:K.In (nH I.heap H):= λ b o e=>J (KX b o e) (by cases q:H b with
   |none=>rfl
   |some u=>
    have e':b=a:=hA b (by rw[q];simp);subst e';rw[hK (by rw[q];simp)]at e;cases e);have hM:Mod K mg (nH I.heap H):=⟨aj,aa af,⟨mb,aa U,ao⟩,let⟨mc,h1,h2⟩:=ag;⟨mc,aa h1,h2⟩⟩;have e0:u_ P w K mg (nH I.heap H) callerA [] I H:=⟨rfl,hM,λ b o e=>AZ e,Nat.le_of_eq (u6 _ _),trivial,λ b U=>absurd (show b∈([]:List Addr)from U) (by simp),ai,.of_eq hg,λ c P e=>by rw[ae]at e;cases e⟩;refine codeAny_mono ((F _ aj (aa af)).run callerA [] I H ⟨[.ref a],[]⟩ [.ref a] [.ref a] _ _ hr e0 (ab I (.ref a)) (.cons rfl .nil) (aq H hO hS)) λ r s' h=>?_;cases r with
  |error e=>exact(ar H e s' h).elim
  |ok fl=>cases fl with
   |next=>exact False.elim h
   |brk=>exact False.elim h
   |cont=>exact False.elim h
   |ret u=>
    obtain⟨v,H',os,bare,un,ak,r',q⟩:=h;have q':v= .bl true:=q;subst q';obtain rfl:u=Value.bool true:=r';refine⟨rfl,OldK.of_keep λ b o e=>?_,os,bare⟩;cases q:H b with
    |none=>exact un.keep b o e q (by intro z;exact absurd (show b∈([]:List Addr)from z) (by simp)) (by simp)
    |some u=>
     rcases hO b with z|⟨ob,xs,z⟩
     .rw[q]at z;cases z
     .have z2:=un.frzs b ob _ z;obtain⟨e1,_⟩:=ai b _ z;obtain⟨e2,_⟩:=ak b _ z2;rw[e]at e1;cases e1;exact e2
 cases hk:K.lookup a with
 |some o=>
  have e:=KX a o hk;rw[ha]at e;cases e;exact core (λ _=>none) (λ _=> .inl rfl) (.inr ⟨_,vs.toArray,_,hk,rfl,rfl,rfl,by rw[List.size_toArray,ah];exact hl,by simpa using rv⟩) (λ b u z=>by have z':none=some u:=z;cases z') (λ b z=>absurd rfl z) λ z=>absurd rfl z
 |none=>
  refine core (λ b=>if b=a then some (.frz { cls:= .type "list",data:= .seq vs.toArray } (.lst (ns.map V.int)))else none) (λ b=>?_) (.inl (.inr ⟨{ cls:= .type "list",data:= .seq vs.toArray },if_pos rfl⟩)) (λ b u z=> ?_) (λ b z=>?_) λ _=>hk
  .by_cases U:b=a;. exact .inr ⟨_,_,if_pos U⟩
   .exact .inl (if_neg U)
  .by_cases U:b=a;. have z':=(if_pos U).symm.trans z;cases z';subst U;exact ⟨ha,by rw [List.length_map];exact hl,vs,_,rv,ha⟩
   .have z':=(if_neg U).symm.trans z;cases z'
  grind
theorem walk_of{l:PySem.W.OpenLaw}{n k:Nat}{q:Program}{loose:List Str}{XP:(Str->Option Value)->Heap->Prop}{YP:World->Heap->Prop}{d:DefRec}{K:Params->PySem.W.Frag}{CX:World->tQ}{sp:World->Sp}{x:Str}
  (hn:l.most=some n)(aa:n<=sizeLine)(ab:d.params.defaults=[])(hr:bR k callerA)
  (hY:∀(w:World)(h:Heap),YP w h->(K w.params).In h)(hT:∀w:World,PySem.W.tabIn (K w.params) nQ=none)
  (F:∀(w:World)(I:Str->Option Value)(fa:Addr)(h:Heap),(K w.params).In h->h.Ns mainGlobals I->I d.name=some (.ref fa)->
   ∃fd:FuncData,(∀(s:Shared)(u:Value),BindsTo s fd ⟨[u],[]⟩ [(x,u)])/\
    ∀base:Heap,(K w.params).In base->base.Ns mainGlobals I->cZ l.prog w (K w.params) I base (CX w) k fa fd [x] (sp w))
  (hsp:∀(w:World)(H:Hp)(a:Addr)(ns:List Int),ns.length<=n->Gx H->fG (K w.params) H a (ns.map V.int)->sp w [.ref a] H (λ v _=>v= .bl true) λ _ _ _=>False)
  (hCX:∀(w:World)(H:Hp)(s:Shared)(e:Value)(s':Shared),CX w [] H s (λ _ _ _=>False) e s'->False):
  PySem.W.WalkO q loose XP YP l.row.toRowW d [] (λ f vs=>PySem.call f vs):=by refine Att.attach_call hn ab λ w s₀ J I mb fa o pm cd doc a vs ns G Y ho hd hcd hmg U hints hlen hg=>?_;have KX:=hY w _ Y;obtain⟨fd,hb,hF⟩:=F w I fa _ KX G.T.g hmg;exact yP KX G.T.g G.T.b G.T.builtins G.T.nolimit hg U hints (Nat.le_trans hlen aa) hr hF hb (hT w) (λ H hO hS=>hsp w H a ns hlen hO hS) λ H e s'=>hCX w H J e s'
noncomputable def d4(s:Stmt):Arguments:=match s with
 | .FunctionDef _ a _ _ _ _ _ _ _ _=>a
 |_=>{ posonlyargs:=[],args:=[],vararg:=none,kwonlyargs:=[],kw_defaults:=[],kwarg:=none,defaults:=[] }
noncomputable def bA(s:Stmt):List Stmt:=match s with
 | .FunctionDef _ _ b _ _ _ _ _ _ _=>b
 |_=>[]
noncomputable def aX(s:Stmt):Scope:=match s with
 | .FunctionDef _ _ _ _ _ _ sc _ _ _=>sc
 |_=>{ kind:= .function,names:=[],isGenerator:=false,isCoroutine:=false }
noncomputable abbrev d8:tQ:= λ _ _ _ _ _ _=>False
noncomputable abbrev E0:XK:= λ _ _ _=>False
theorem uF:Passes d8 X E0:= λ _ _ _ _ _ _ _ h=>h.elim
structure wz (K:PySem.W.Frag) (x qual:Str) (st:Stmt) (f:Addr) (fd:FuncData):Prop where
 ex:∃(oc:Value) (od:Option Addr) (kV doc pm:Value) (an:Option Addr) (cdv ct:Value) (osl:Array (Option Value)),
  fd=PySem.W.fnOf x qual (d4 st) (bA st) (aX st) .none kV doc pm an cdv ct∧K.lookup f=some ⟨oc,od,.func fd,osl⟩∧PySem.W.codeIn K cdv qual=true
 kp:PySem.W.keepIn K (.ref f)=true
section
variable {P:Program} {w:World} {K:PySem.W.Frag} {mg:Str->Option Value} {base:Heap}
theorem wz.ok{st:Stmt}{f:Addr}{fd:FuncData}{N ps:List Str}{k:Nat}{sp:Sp}(F:wz K x qual st f fd)(S:bT N ps (aX st))(len:∀vs H Q E,sp vs H Q E->vs.length=ps.length)
  (I:∀(cdv:Value)(A:Around)(outer:List Env)(s:Shared)(H:Hp)(vs:List V)(Q:VK)(E:XK),bR k (A.deeper (envOfC qual (aX st) s.heap.objs.size f cdv))->sp vs H Q E->
   ∃t,kE (eE d8 P w K mg base N qual (aX st) f cdv A outer s H E).nox (bA st) t/\t { nx:= λ _ H'=>Q .non H',rt:=Q } (start N vs) H):cZ P w K mg base d8 (k+1) f fd ps sp:=by obtain⟨oc,od,kV,doc,pm,an,cdv,ct,aa,rfl,lk,J⟩:=F.ex;refine DZ lk J S len λ A outer s H vs Q E hr U=>?_;obtain⟨t,h,q⟩:=I cdv A outer s H vs Q E hr U;exact⟨t,h.nox,q⟩
theorem wz.binds{st:Stmt}{f:Addr}{fd:FuncData}{ps:List Str}(F:wz K x qual st f fd)
  (h:∀(kV doc pm:Value)(an:Option Addr)(cdv I:Value)(us:List Value),us.length=ps.length->bindArgs (PySem.W.fnOf x qual (d4 st) (bA st) (aX st) .none kV doc pm an cdv I) ⟨us,[]⟩=pure (ps.zip us)):Binds K fd ps []:=by obtain⟨oc,od,kV,doc,pm,an,cdv,I,J,rfl,lk,U⟩:=F.ex;exact .all (h kV doc pm an cdv I)
theorem qZ{st:Stmt}{f:Addr}{U:Value}{od an:Option Addr}{I:Array (Option Value)}{kV doc pm cdv J:Value}(l:K.lookup f=some ⟨U,od,.func (PySem.W.fnOf x qual (d4 st) (bA st) (aX st) .none kV doc pm an cdv J),I⟩)
  (c:PySem.W.codeIn K cdv qual=true)(k:PySem.W.keepIn K (.ref f)=true):wz K x qual st f (PySem.W.fnOf x qual (d4 st) (bA st) (aX st) .none kV doc pm an cdv J):=⟨⟨U,od,kV,doc,pm,an,cdv,J,I,rfl,l,c⟩,k⟩
end
theorem JQ{A B:Prop}(h:B):if false=true then A else B:=by grind
theorem JV{A B:Prop}(h:A):if true=true then A else B:=by grind
noncomputable def fM(H H':Hp):Prop:=∀b o,H b=some o->H' b=some o
end L2
namespace L2
open PySem
theorem mW{elt target iter:Expr}{ifs:List Expr}{scope:Scope}{pos:Pos}{it acc:Value}{env:Env}(I:Nat->Shared->Prop)
  (turn:∀n s,I n s->wpAny (model prog w) A (pyNext it) (λ r s1=>match r with
   |none=>R (.ok .next) s1
   |some v=>wpAny (model prog w) A (letOwnedTupleGo target it v) (λ _ s2=>wpAny (model prog w) A (assign target env v) (λ _ s3=>
     wpAny (model prog w) A (forIn ifs true λ c r=>if r=true then do let ok<- isTrue c env (eval c env);pure (ForInStep.yield ok)else pure (ForInStep.yield r)) (λ ok s4=>
      if ok=true then wpAny (model prog w) A (eval elt env) (λ x s5=>
       wpAny (model prog w) A (call (.builtin "list.append") [acc,x]) (λ _ s6=>∃m,m<n/\I m s6) (λ _ _=>False) s5) (λ _ _=>False) s4
      else∃m,m<n/\I m s4) (λ _ _=>False) s3) (λ _ _=>False) s2) (λ _ _=>False) s1) (λ _ _=>False) s)
  (n:Nat)(h:I n s):
  codeAny (model prog w) A (.compLoop (.ListComp elt [⟨target,iter,ifs,0⟩] scope pos) 0 it acc env) R s:=by refine codeAny_loop rfl I (λ n s hI=>?_) n h;show wpAny _ A ((compTurn (.ListComp elt [⟨target,iter,ifs,0⟩] scope pos) 0 it acc env).onRaise (λ x=>do noteFrame x env;theTreesLotGoes x)) _ _ s;refine wpAny_noted ?_;rw[compTurn_list];refine wpAny_bind (wpAny_standAt (wpAny_bind (wpAny_mono (turn n s hI) (λ r ae o=>?_) λ _ _ h'=>h'.elim)));cases r with
 |none=>exact wpAny_pure o
 |some v=>refine wpAny_bind (wpAny_mono o (λ _ af J=>?_) λ _ _ h'=>h'.elim);refine wpAny_bind (wpAny_mono J (λ _ ag U=>wpAny_bind (wpAny_mono U (λ ok ah C=>?_) λ _ _ h'=>h'.elim)) λ _ _ h'=>h'.elim);cases ok with
  |false=>exact wpAny_pure ⟨rfl,C⟩
  |true=>exact wpAny_bind (wpAny_bind (wpAny_mono C (λ x ai aa=>wpAny_bind (wpAny_mono aa (λ _ aj ab=>wpAny_pure (wpAny_pure ⟨rfl,ab⟩)) λ _ _ h'=>h'.elim)) λ _ _ h'=>h'.elim))
noncomputable def gX(cells:List (Str×Addr)):List (Str×NameKind)->List (Str×Addr)->List (Str×Addr)
 |[],acc=>acc
 |(n,k)::r,acc=>if k== .free then(match cells.lookup n with|some c=>gX cells r ((n,c)::acc)|none=>gX cells r acc)else gX cells r acc
theorem gS(h:∀n,(n,NameKind.free)∈scope.names->∃c,env.cells.lookup n=some c):closureFor scope env=pure (gX env.cells scope.names []):=by
 have gen:∀(names:List (Str×NameKind))(acc:List (Str×Addr)),(∀n,(n,NameKind.free)∈names->∃c,env.cells.lookup n=some c)->
   (forIn names acc (λ x r=>match x with
    |(name,kind)=>if(kind== .free)=true then do let a<- cellOf env name;pure (ForInStep.yield ((name,a)::r))else pure (ForInStep.yield r)):Sem (List (Str×Addr)))=pure (gX env.cells names acc):=by intro names;induction names with
  |nil=>intro acc _;rfl
  |cons x r C=>
   intro acc hx;obtain⟨n,k⟩:=x;rw[List.forIn_cons];unfold gX;by_cases I:(k==NameKind.free)=true
   .have e:k= .free:=by simpa using I
    subst e;obtain⟨c,o⟩:=hx n List.mem_cons_self;dsimp only;rw[o];have:cellOf env n=pure c:=by unfold cellOf;rw[o]
    rw[this];exact C _ λ m hm=>hx m (List.mem_cons_of_mem _ hm)
   grind
 unfold closureFor;grind
theorem ir:∀{names:List (Str×NameKind)}{acc:List (Str×Addr)}{x:Str}{c:Addr},(x,c)∈gX cells names acc->(x,c)∈acc\/(cells.lookup x=some c/\(x,NameKind.free)∈names)
 |[],_,_,_,h=> .inl h
 |(n,k)::r,acc,x,c,h=>by
  unfold gX at h;split at h
  .rename_i I;have e:k=NameKind.free:=by simpa using I
   subst e;split at h
   .rename_i d hd;rcases ir h with h|⟨o,C⟩
    .rcases List.mem_cons.mp h with e|h
     .cases e;exact .inr ⟨hd,List.mem_cons_self⟩
     .exact .inl h
    simp_all
   .rcases ir h with h|⟨o,C⟩
    .exact .inl h
    .exact .inr ⟨o,List.mem_cons_of_mem _ C⟩
  .rcases ir h with h|⟨o,C⟩
   .exact .inl h
   .exact .inr ⟨o,List.mem_cons_of_mem _ C⟩
theorem gG:∀{names:List (Str×NameKind)}{acc:List (Str×Addr)}{x:Str},((x,NameKind.free)∈names/\(cells.lookup x).isSome=true)\/(acc.lookup x).isSome=true->((gX cells names acc).lookup x).isSome=true
 |[],_,_,h=>h.elim (λ z=>nomatch z.1) id
 |(n,k)::r,acc,x,h=>by
  unfold gX;by_cases o:(k==NameKind.free)=true;. rw[if_pos o];cases hd:cells.lookup n with
   |none=>refine gG ?_;grind
   |some d=>refine gG ?_;grind
  .rw[if_neg o];refine gG ?_;rcases h with⟨C,I⟩|h
   .rcases List.mem_cons.mp C with e|C
    .cases e;simp at o
    .exact .inl ⟨C,I⟩
   .exact .inr h
theorem dk:∀(names:List (Str×NameKind))(n:Nat)(acc:List (Str×Addr)),cellsFrom n names acc=cellsFrom n names []++acc
 |[],_,_=>rfl
 |(x,k)::r,n,acc=>by
  unfold cellsFrom;split;. rw[dk r (n+1) ((x,n)::acc),dk r (n+1) [(x,n)],List.append_assoc];rfl
  .exact dk r n acc
theorem eL:∀(names:List (Str×NameKind))(n:Nat)(x:Str)(c:Addr),(x,c)∈cellsFrom n names []->(x,NameKind.cell)∈names
 |[],_,_,_,h=>nomatch h
 |(y,k)::r,n,x,c,h=>by
  unfold cellsFrom at h;split at h
  .rw[dk]at h;rcases List.mem_append.mp h with h|h
   .exact List.mem_cons_of_mem _ (eL r (n+1) x c h)
   simp_all
  .exact List.mem_cons_of_mem _ (eL r n x c h)
theorem jv{s:Shared}{scope:Scope}{globals:Addr}{cl:List (Str×Addr)}{qual:Str}{outer:Env}{Q:Env->Shared->Prop}
  (o:Q (newEnv scope s.heap.objs.size globals (cellsFrom (s.heap.objs.size+1) scope.names cl) qual none .none (some outer) builtinsNs) { s with heap:=pushCells (s.heap.push { cls:= .type "dict",data:= .dict #[] }) scope.names }):
  wpAny M A (newFunctionEnv scope globals cl [] qual none .none (some outer)) Q E s:=by simp only[newFunctionEnv,Option.isSome_some,if_true];refine wpAny_bind (wpAny_alloc ?_);refine wpAny_bind (wpAny_layCells _ (λ name kind cells=>by rfl) _ _ _ _ ?_);rw[show({ s with heap:=s.heap.push { cls:= .type "dict",data:= .dict #[] } }:Shared).heap.objs.size=s.heap.objs.size+1 from Heap.size_push ..];exact wpAny_bind (wpAny_pure (wpAny_pure o))
end L2
namespace L2
open PySem PySem.Spec PyProof.Rows
noncomputable def dh(N own:List Str)(o scope:Scope):Bool:=
 scope.names.all (λ x=> !(x.2== .local)||(scope.names.lookup x.1==some .local))&&
 (scope.names.all (λ x=> !(x.2== .free)||(o.names.lookup x.1==some .cell||o.names.lookup x.1==some .free))&&
 (scope.names.all (λ x=> !(x.2== .local||x.2== .cell)|| !(N.contains x.1))&&
 (own.all (λ x=>scope.names.all λ y=> !(y.1==x)|| !(y.2== .free))&&
 scope.names.all (λ x=> !(x.2== .free)||scope.names.all λ y=> !(y.1==x.1)||(y.2== .free)))))
structure r_ (N own:List Str) (sc0 scope:Scope):Prop where
 loc:∀x ∈ scope.names,x.2=.local->scope.names.lookup x.1=some .local
 free:∀n,(n,NameKind.free) ∈ scope.names->sc0.names.lookup n=some .cell ∨ sc0.names.lookup n=some .free
 out:∀n k,(n,k) ∈ scope.names->(k=.local ∨ k=.cell)->n ∉ N
 own:∀x ∈ own,(x,NameKind.free) ∉ scope.names
 one:∀n k,(n,NameKind.free) ∈ scope.names->(n,k) ∈ scope.names->k=.free
theorem mr(h:dh N own C scope=true):r_ N own C scope:=by
 unfold dh at h;simp only[Bool.and_eq_true,List.all_eq_true,Bool.or_eq_true,Bool.not_eq_true',beq_iff_eq,Bool.or_eq_false_iff]at h;obtain⟨U,h2,h3,h4,h5⟩:=h;refine⟨λ x hx e=>?_,λ n o=>?_,λ n k o e hN=>?_,λ x hx o=>?_,λ n k o hk=>?_⟩
 .rcases U x hx with z|z
  .rw[e]at z;simp at z
  .exact z
 .rcases h2 _ o with z|z
  .simp at z
  .exact z
 .rcases h3 _ o with⟨I,J⟩|z
  .rcases e with e|e
   .rw[e]at I;simp at I
   .rw[e]at J;simp at J
  .have:N.contains n=true:=by simpa using hN
   rw[this]at z;cases z
 .rcases h4 x hx _ o with z|z
  .simp at z
  .simp at z
 grind
noncomputable def di(N N':List Str)(scope:Scope):Bool:=(N'.length==N.length)&&(N'.zip N).all λ p=>p.1==p.2||(scope.names.lookup p.1).isNone
structure Ae (N N':List Str) (scope:Scope):Prop where
 len:N'.length=N.length
 same:∀(i:Nat) x,N'[i]? = some x->N[i]? = some x ∨ scope.names.lookup x=none
theorem l8(h:di N N' scope=true):Ae N N' scope:=by
 unfold di at h;simp only[Bool.and_eq_true,beq_iff_eq,List.all_eq_true,Bool.or_eq_true,Option.isNone_iff_eq_none]at h;refine⟨h.1,λ i x e=>?_⟩;have C:i<N'.length:=(List.getElem?_eq_some_iff.mp e).1;have o:i<N.length:=by rw[<- h.1];exact C
 have I:(N'.zip N)[i]?=some (x,N[i]):=by rw[List.getElem?_zip_eq_some];exact⟨e,List.getElem?_eq_getElem o⟩
 grind
noncomputable def blk(X:Cx)(N' own:List Str)(scope:Scope)(s:Shared)(H:Hp)(fp:List Addr)(pins:List (Addr×Obj)):Cx where
 prog:=X.prog
 w:=X.w
 K:=X.K
 mg:=X.mg
 base:=X.base
 A:=X.A
 N:=N'++own
 s₀:=s
 H₀:=H
 env:={ newEnv scope s.heap.objs.size X.env.globals (cellsFrom (s.heap.objs.size+1) scope.names (gX X.env.cells scope.names [])) X.env.qual none .none (some X.env) builtinsNs with scope:=relabel scope X.env }
 outer:=X.stack
 stack:=X.stack
 ex:=fp
 fn:= λ x=>own.contains x
 calm:=X.calm
 pn:=X.pn++pins
 xe:= λ _ _=>False
theorem fZ{env:Env}:∀{names:List (Str×NameKind)}{x:Str},
  (names.map λ(n,k)=>if(k==NameKind.free&&env.scope.kind== .function&&env.kindOf n==some .cell)then(n,NameKind.cell)else(n,k)).lookup x=
   (names.lookup x).map λ k=>if(k==NameKind.free&&env.scope.kind== .function&&env.kindOf x==some .cell)then NameKind.cell else k
 |[],_=>rfl
 |(n,k)::r,x=>by have o:=@fZ env r x;grind
theorem c_(h:(relabel scope env).names.lookup x=some o):∃k,scope.names.lookup x=some k/\(o=k\/(k= .free/\o= .cell)):=by have h':(scope.names.map λ(n,k)=>if(k==NameKind.free&&env.scope.kind== .function&&env.kindOf n==some .cell)then(n,NameKind.cell)else(n,k)).lookup x=some o:=h;rw[fZ]at h';cases e:scope.names.lookup x with
 |none=>grind
 |some k=>grind
section
variable {X:Cx} {pins:List (Addr × Obj)} {σ:St} {H:Hp} {s:Shared} {N' own:List Str} {scope:Scope} {fp:List Addr}
theorem iY(I:Inv X pins σ H s)(S:r_ N' own X.env.scope scope):∀x c,(cellsFrom (s.heap.objs.size+1) scope.names (gX X.env.cells scope.names [])).lookup x=some c->
  ((x,c)∈cellsFrom (s.heap.objs.size+1) scope.names []/\(pushCells (s.heap.push { cls:= .type "dict",data:= .dict #[] }) scope.names).IsCell c none/\s.heap.objs.size+1<=c/\(x,NameKind.cell)∈scope.names)\/
   (X.env.cells.lookup x=some c/\(x,NameKind.free)∈scope.names/\c<s.heap.objs.size):=by
 intro x c h;have ok:=cellsFrom_ok scope.names (s.heap.push { cls:= .type "dict",data:= .dict #[] }) (s.heap.objs.size+1) [] ⟨λ _ _ hm=>(nomatch hm),List.Pairwise.nil⟩ (by simp);rw[Heap.size_push]at ok;have hm:=mem_of_lookup h;rw[dk]at hm;rcases List.mem_append.mp hm with hm|hm
 .exact .inl ⟨hm,(ok.empty x c hm).1,(ok.empty x c hm).2,eL _ _ _ _ hm⟩
 .rcases ir hm with z|⟨o,C⟩
  .exact nomatch z
  .obtain⟨v,q⟩:=I.cell x c o;exact .inr ⟨o,C,q.lt⟩
theorem Inv.blkKeep{s:Shared}{scope:Scope}:∀(b:Addr)(o:Obj),s.heap.get? b=some o->(pushCells (s.heap.push { cls:= .type "dict",data:= .dict #[] }) scope.names).get? b=some o:= λ b o e=>
 pushCells_keeps _ _ b o (Heap.get?_push_of_some _ e)
theorem Inv.blk(I:Inv X pins σ H s)(hf:∀b∈fp,gh X pins H b)(ho:∀b∈fp,b<s.heap.objs.size)(hk:scope.kind= .function)(S:r_ N' own X.env.scope scope)(Mk:Ae X.N N' scope):
  Inv (blk X N' own scope s H fp pins) [] (σ++List.replicate own.length none) H { s with heap:=pushCells (s.heap.push { cls:= .type "dict",data:= .dict #[] }) scope.names }:=by
 have C:=iY I S;have keep:=@Inv.blkKeep s scope;have aa:∀x,((relabel scope X.env).names.lookup x=some .cell\/(relabel scope X.env).names.lookup x=some .free)->∃c,(cellsFrom (s.heap.objs.size+1) scope.names (gX X.env.cells scope.names [])).lookup x=some c:=by
  intro x hx;have:∃k,scope.names.lookup x=some k/\(k= .cell\/k= .free):=by
   rcases hx with hx|hx
   .obtain⟨k,e,z⟩:=c_ hx;rcases z with z|⟨z,_⟩
    .exact⟨k,e,.inl z.symm⟩
    .exact⟨k,e,.inr z⟩
   .obtain⟨k,e,z⟩:=c_ hx;rcases z with z|⟨z,_⟩
    .exact⟨k,e,.inr z.symm⟩
    .exact⟨k,e,.inr z⟩
  obtain⟨k,e,z⟩:=this;refine Option.isSome_iff_exists.mp (PySem.W.cellsFrom_some scope.names _ _ ?_);rcases z with z|z
  .subst z;exact .inl e
  .subst z;have hm:=mem_of_lookup e;obtain⟨c,hc⟩:=I.ok.has x (S.free x hm);exact .inr (gG (.inl ⟨hm,by rw[hc];rfl⟩))
 have sub:∀b,b∈fT X.stack->b∈X.env.locals::X.fs:=I.stkSub;refine⟨⟨I.ok.mod,hk,I.ok.glob,I.ok.blt,Nat.le_refl _,λ x y c h1 h2=>?_,λ x hx=>aa x hx,λ x c hx h=>?_,I.ok.hd,I.ok.frames,.inl rfl,λ b hb=>⟨?_,λ x c h=>?_⟩,λ b o e=>I.bs b o e,?_,λ b o e hb=>?_,λ b hb hs=>?_,I.stack,I.stkFree,I.tb⟩,
  rfl,I.bare,Un.kept keep,⟨_,(Heap.Ns.new s.heap (.type "dict")).keeps (pushCells_keeps _ _),λ i x v h1 h2 J=>?_⟩,λ x c h=>?_,I.hok.fresh (Nat.le_refl _),λ x c h=>?_,λ p hp=>?_,I.hok.kept keep,?_⟩;. -- inj
  have ok:=cellsFrom_ok scope.names (s.heap.push { cls:= .type "dict",data:= .dict #[] }) (s.heap.objs.size+1) [] ⟨λ _ _ hm=>(nomatch hm),List.Pairwise.nil⟩ (by rw[Heap.size_push];exact Nat.le_refl _);rw[Heap.size_push]at ok;rcases C x c h1 with⟨a1,_,a3,_⟩|⟨a1,_,a3⟩ <;> rcases C y c h2 with⟨b1,_,b3,_⟩|⟨b1,_,b3⟩
  .exact name_of_addr ok.apart a1 b1
  .exact absurd b3 (Nat.not_lt.mpr (Nat.le_of_succ_le a3))
  .exact absurd a3 (Nat.not_lt.mpr (Nat.le_of_succ_le b3))
  .exact I.ok.inj x y c a1 b1
 .rcases C x c h with⟨_,_,a3,_⟩|⟨_,a2,_⟩
  .exact Nat.le_of_succ_le a3
  .have aj:own.contains x=true:=hx;exact absurd a2 (S.own x (by simpa using aj))
 .exact Nat.ne_of_lt (ho b hb)
 .rcases C x c h with⟨_,_,a3,_⟩|⟨a1,_,_⟩
  .intro z;subst z;exact absurd (ho _ hb) (Nat.not_lt.mpr (Nat.le_of_succ_le a3))
  .exact(hf b hb).2.2.2.2.1 x c a1
 .exact Nat.le_trans I.ok.bsz I.sz
 .rcases(hf b hb).2.2.2.1 with z|z
  .exact I.ok.noex b o e z
  .exact absurd (Heap.lt_size e) (Nat.not_lt.mpr (Nat.le_trans I.ok.bsz z))
 .rcases List.mem_cons.mp (sub b hs)with z|z
  .exact(hf b hb).2.1 z
  .exact(hf b hb).2.2.1 z
 .
  have hi:i<σ.length:=by
   by_cases hi:i<σ.length;. exact hi
   .rw[List.getElem?_append_right (by omega),List.getElem?_replicate]at h2;split at h2 <;> cases h2
  rw[List.getElem?_append_left hi]at h2;have ah:N'[i]?=some x:=by have:(N'++own)[i]?=some x:=h1;rwa [List.getElem?_append_left (by rw[Mk.len,<- I.len];exact hi)]at this
  have ab:x∈N':=List.mem_of_getElem? ah;have ae:∃k,scope.names.lookup x=some k:=by rcases J with J|J|J <;> (obtain⟨k,e,_⟩:=c_ J;exact⟨k,e⟩)
  have hN:X.N[i]?=some x:=by
   rcases Mk.same i x ah with z|z
   .exact z
   .obtain⟨k,e⟩:=ae;rw[z]at e;cases e
  have U:scope.names.lookup x=some .free/\((relabel scope X.env).names.lookup x=some .cell\/(relabel scope X.env).names.lookup x=some .free):=by
   rcases J with J|J|J
   .obtain⟨k,e,z⟩:=c_ J;rcases z with z|⟨_,z⟩
    .exact absurd ab (S.out x k (mem_of_lookup e) (.inl z.symm))
    .cases z
   .obtain⟨k,e,z⟩:=c_ J;rcases z with z|⟨z,_⟩
    .exact absurd ab (S.out x k (mem_of_lookup e) (.inr z.symm))
    .rw[z]at e;exact⟨e,.inl J⟩
   .obtain⟨k,e,z⟩:=c_ J;rcases z with z|⟨z,_⟩
    .rw[<- z]at e;exact⟨e,.inr J⟩
    .rw[z]at e;exact⟨e,.inr J⟩
  have hm:=mem_of_lookup U.1;have af:=S.free x hm;obtain⟨m,hn,hl⟩:=I.loc;obtain⟨u,r,l⟩:=hl i x v hN h2 (.inr af);refine⟨u,r,.inr ⟨U.2,?_⟩⟩;rcases l with⟨k,_⟩|⟨_,c,hc,ag⟩
  .have k':X.env.scope.names.lookup x=some .local:=k;rw[k']at af;rcases af with z|z <;> cases z
  .obtain⟨c2,ai⟩:=aa x U.2;refine⟨c2,ai,?_⟩;rcases C x c2 ai with⟨_,_,_,a4⟩|⟨a1,_,_⟩
   .have:=S.one x _ hm a4;cases this
   .rw[hc]at a1;cases a1;exact ag.keeps keep
 .rcases C x c h with⟨_,a2,_,_⟩|⟨a1,_,_⟩
  .exact⟨_,a2⟩
  .obtain⟨v,q⟩:=I.cell x c a1;exact⟨v,q.keeps keep⟩
 .rcases C x c h with⟨_,_,a3,_⟩|⟨a1,_,_⟩
  .exact I.hok.fresh (by omega)
  .exact I.freeC x c a1
 .have ak:p∈X.pn++pins:=by
   rcases List.mem_append.mp hp with z|z
   .exact z
   .exact nomatch z
  obtain⟨e,n,ne,nf,d⟩:=I.pin p ak;refine⟨keep _ _ e,n,Nat.ne_of_lt (Heap.lt_size e),λ z=>?_,d⟩;rcases List.mem_cons.mp (sub p.1 z)with z|z
  .exact ne z
  grind
 .show(σ++List.replicate own.length none).length=(N'++own).length;rw[List.length_append,List.length_append,List.length_replicate,I.len,Mk.len]
theorem Inv.unblk(I:Inv X pins σ H s)(hf:∀b∈fp,gh X pins H b){pins':List (Addr×Obj)}{C:St}{H':Hp}{s':Shared}(J:Inv (L2.blk X N' own scope s H fp pins) pins' C H' s'):Inv X pins σ H' s':=
 I.call' (ch:=fp) J.os J.base J.hok J.bare λ b o=>⟨(hf b o).2.2.2.1,(hf b o).2.1,(hf b o).2.2.2.2.1,(hf b o).2.2.2.2.2⟩
end
noncomputable def sG(X:Cx)(ifs:List Expr)(t:TT):Prop:=
 ∀(pins:List (Addr×Obj))(s:Shared)(σ:St)(H:Hp)(Q:Bool->Hp->Prop),Inv X pins σ H s->t σ H Q->
  wpAny (model X.prog X.w) X.A (forIn ifs true λ c r=>if r=true then do let ok<- isTrue c X.env (eval c X.env);pure (ForInStep.yield ok)else pure (ForInStep.yield r)) (TP X pins σ Q) X.xe s
noncomputable def vO:TT:= λ _ H Q=>Q true H
theorem tP:sG X [] vO:= λ pins s σ H Q I h=>wpAny_tests_nil ⟨H,I,h⟩
theorem Dn(h:PT X c t):sG X [c] t:= λ pins s σ H Q I q=>wpAny_tests_one (h pins s σ H Q I q)
structure EC (cal:Cx->Prop) (P:Program) (w:World) (K:PySem.W.Frag) (tg:Expr) (J:It) (fp:List Addr) (it:Addr) (tn:Nat->Heap->Prop):Prop where
 obj:∀i h,tn i h->∀b ∈ fp,∃o,h.get? b=some o∧∀v,o.data ≠ .cell v
 keep:∀i h h',tn i h->(∀b ∈ fp,∀o,h.get? b=some o->h'.get? b=some o)->tn i h'
 item:∀(X:Cx),X.prog=P->X.w=w->X.K=K->cal X->∀(i:Nat) (pins:List (Addr × Obj)) (s:Shared) (σ:St) (H:Hp) (E:Value->Shared->Prop),Inv X pins σ H s->(∀b ∈ fp,gh X pins H b)->tn i s.heap->J.go i H ->
  wpAny (model P w) X.A (pyNext (.ref it)) (fun r s1=>∃u,r=some u ∧
   wpAny (model P w) X.A (letOwnedTupleGo tg (.ref it) u) (fun _ s2=>∃x H',Inv X pins σ H' s2∧RelV x u∧J.yld i H x H' ∧ tn (i + 1) s2.heap∧∀b ∈ fp,H' b=none) E s1) E s
 done:∀(X:Cx),X.prog=P->X.w=w->X.K=K->cal X->∀(i:Nat) (pins:List (Addr × Obj)) (s:Shared) (σ:St) (H:Hp) (E:Value->Shared->Prop),Inv X pins σ H s->(∀b ∈ fp,gh X pins H b)->tn i s.heap->J.stop i H ->
  wpAny (model P w) X.A (pyNext (.ref it)) (fun r s1=>r=none∧Inv X pins σ H s1) E s
 self:∀(A:Around) (i:Nat) (s:Shared) (Q:Value->Shared->Prop) (E:Value->Shared->Prop),tn i s.heap->Q (.ref it) s->wpAny (model P w) A (pyIter (.ref it)) Q E s
noncomputable def G9(cal:Cx->Prop)(X:Cx)(tg iter:Expr)(I:TI):Prop:=
 ∀(pins:List (Addr×Obj))(s:Shared)(σ:St)(H:Hp)(R:It->Hp->Prop),Inv X pins σ H s->I σ H R->
  wpAny (model X.prog X.w) X.A (eval iter X.env) (λ v s1=>wpAny (model X.prog X.w) X.A (pyIter v) (λ o s2=>∃(it:Addr) (fp:List Addr) (C:Nat->Heap->Prop) (J:It) (H':Hp),o= .ref it/\Inv X pins σ H' s2/\EC cal X.prog X.w X.K tg J fp it C/\C 0 s2.heap/\(∀b∈fp,gh X pins H' b)/\R J H') X.xe s1) X.xe s
theorem PI.g(h:PI X tg iter o):G9 (λ X=>X.calm=true) X tg iter o:= λ pins s σ H R I q=>
 cp (h pins s σ H R I q) λ _ _ h=>cp h λ _ _ ⟨it,fp,C,J,H',e,U,T,r⟩=>⟨it,fp,C,J,H',e,U,⟨T.obj,T.keep,T.item,T.done,T.self⟩,r⟩
noncomputable def gQ(wi:TI)(own:Nat)(g:TG)(tt:TT)(te:TE):TE:= λ σ H Q=>wi σ H λ J H1=>∀l,H1 l=none->∃W:Nat->Nat->List V->Hp->Prop,(∃m,W 0 m [] (upd H1 l (.lst [])))/\∀i m acc H,W i m acc H->
 H l=some (.lst acc)/\((J.stop i H/\Q (.ref l) H)\/(J.go i H/\∀x H',J.yld i H x H'->g x (σ++List.replicate own none) H' λ o H2=>o.take σ.length=σ/\tt o H2 λ b I=>
  if b=true then te o I λ v U=>U l=some (.lst acc)/\acc.length<sizeLine/\∃C,C<m/\W (i+1) C (acc++[v]) (upd U l (.lst (acc++[v])))
  else∃C,C<m/\W (i+1) C acc I))
noncomputable abbrev KJ:=Env->Addr->Value->(Shared->Prop)->Shared->Prop
noncomputable abbrev K0(P:Program)(w:World)(A:Around)(tg:Expr)(ifs:List Expr)(elt:Expr)(n:String):KJ:= λ env l v K s=>wpAny (model P w) A (assign tg env v) (λ _ s=>wpAny (model P w) A (forIn ifs true λ c r=>if r=true then do let ok<- isTrue c env (eval c env);pure (ForInStep.yield ok)else pure (ForInStep.yield r)) (λ ok s=>
 if ok=true then wpAny (model P w) A (eval elt env) (λ y s=>wpAny (model P w) A (call (.builtin n) [.ref l,y]) (λ _=>K) (λ _ _=>False) s) (λ _ _=>False) s else K s) (λ _ _=>False) s) (λ _ _=>False) s
section
variable {X:Cx} {elt tg iter:Expr} {ifs:List Expr} {scope:Scope} {pos pos':Pos} {N' own:List Str} {wi:TI} {g:TG} {tt:TT} {te:TE}
theorem uK{gs:List Comprehension}(hc:∀s H fp pins,cal (blk X N' own scope s H fp pins))(hi:G9 cal X tg iter wi)(hk:scope.kind= .function)(hS:dh N' own X.env.scope scope=true)(hM:di X.N N' scope=true)(hs:∀x,foldedSetIterable iter X.env x=pure x)
  {nw:Obj}{ob:Addr->HO}(bd:KJ)(hl:clausesOf Ce=⟨tg,iter,ifs,0⟩::gs){use:Option (Value->Sem Unit)}{Q0:Value->Shared->Prop}{pins:List (Addr×Obj)}{Q:VK}{M:It->Hp->Prop}(I:Inv X pins σ H s)(h:wi σ H M)
  (nN:∀{s P},P (.ref s.heap.objs.size) { s with heap:=s.heap.push nw }->wpAny (model X.prog X.w) X.A mk P X.xe s)
  (nI:∀{H s},Inv X pins σ H s->Inv X pins σ (upd H s.heap.objs.size (ob s.heap.objs.size)) { s with heap:=s.heap.push nw })
  (lp:∀{env it l R s}(I:Nat->Shared->Prop),(∀n s,I n s->wpAny (model X.prog X.w) X.A (pyNext it) (λ r s1=>match r with
   |none=>R (.ok .next) s1
   |some v=>wpAny (model X.prog X.w) X.A (letOwnedTupleGo tg it v) (λ _=>bd env l v λ s=>∃m,m<n/\I m s) (λ _ _=>False) s1) (λ _ _=>False) s)->∀n,I n s->codeAny (model X.prog X.w) X.A (.compLoop Ce 0 it (.ref l) env) R s)
  (sl:∀{env it l R s},codeAny (model X.prog X.w) X.A (.compLoop Ce 0 it (.ref l) env) R s->(∀E,wpAny (model X.prog X.w) X.A (pyIter it) (λ o=>codeAny (model X.prog X.w) X.A (.compLoop Ce 0 o (.ref l) env) R) E s)->codeAny (model X.prog X.w) X.A (.compStart Ce 0 it (.ref l) env) R s)
  (bo:∀J H1 l,M J H1->H1 l=none->∃W:Nat->Nat->Hp->Prop,(∃m,W 0 m (upd H1 l (ob l)))/\∀i m H,W i m H->(J.stop i H/\Q (.ref l) H)\/(J.go i H/\∀x H',J.yld i H x H'->∀s3 H3 fp ps s u K,Inv (blk X N' own scope s3 H3 fp pins) ps (σ++List.replicate own.length none) H' s->RelV x u->
   (∀{o H s C},Inv (blk X N' own scope s3 H3 fp pins) ps o H s->o.take σ.length=σ->C<m->W (i+1) C H->K s)->bd (blk X N' own scope s3 H3 fp pins).env l u K s))
  (fin:∀(l:Addr)(H':Hp)(s':Shared)(C:Addr)(m:Str->Option Value),Inv X pins σ H' s'->Q (.ref l) H'->s'.heap.Ns C m->H' C=none->C≠X.env.locals->X.s₀.heap.objs.size<=C->(∀x c,X.env.cells.lookup x=some c->c≠C)->(∀p∈X.pn++pins,p.1≠C)->
   compPost (model X.prog X.w) X.A X.xe use Q0 (.ref l) C (.ok .next) s'):
  wpAny (model X.prog X.w) X.A (comprehension Ce scope X.env pos' mk false (eval iter X.env) use) Q0 X.xe s:=by
 have S:=mr hS;have Mk:=l8 hM;refine wpAny_comprehension_free hl hs (gS λ n hn=>I.ok.has n (S.free n hn)) hk S.loc (cp (hi pins s σ H _ I h) λ xv s1 h1=>cp h1 λ aN s2 h2=>?_);obtain⟨it,fp,tn,J,H2,e,I2,T,ak,f2,q2⟩:=h2;subst e;refine nN ?_;have I3:=nI I2;obtain⟨W,⟨m0,w0⟩,turn⟩:=bo _ _ _ q2 I2.fresh;generalize hl:s2.heap.objs.size=l at*;have ao:∀b∈fp,b<l:= λ b U=>by obtain⟨o,e,_⟩:=T.obj _ _ ak b U;rw[<- hl];exact Heap.lt_size e
 have aq:tn 0 (s2.heap.push nw):=T.keep _ _ _ ak λ b _ o e=>Heap.get?_push_of_some _ e;have ar:l<(s2.heap.push nw).objs.size:=by rw[Heap.size_push,hl];exact Nat.lt_succ_self _
 have f3:∀b∈fp,gh X pins (upd H2 l (ob l)) b:= λ b U=>⟨by rw[aZ (Nat.ne_of_lt (ao b U))];exact(f2 b U).1,(f2 b U).2⟩;generalize aB:({ s2 with heap:=s2.heap.push nw }:Shared)=s3 at I3 |-;have aC:s3.heap=s2.heap.push nw:=by rw[<- aB]
 rw[<- aC]at aq ar;have ah:∀b∈fp,b<s3.heap.objs.size:= λ b U=>Nat.lt_trans (ao b U) ar;generalize upd H2 l (ob l)=H3 at*;refine jv ?_;have IY:=I3.blk f3 ah hk S Mk;have aw:tn 0 (pushCells (s3.heap.push { cls:= .type "dict",data:= .dict #[] }) scope.names):=T.keep _ _ _ aq λ b _ o e=>@Inv.blkKeep s3 scope b o e;have ae:=iY I3 S;have aa:∀{H':Hp},(∀b∈fp,H' b=none)->∀b∈fp,gh (blk X N' own scope s3 H3 fp pins) [] H' b:= λ hn b U=>by
  refine⟨hn b U,Nat.ne_of_lt (ah b U),λ z=>?_,.inl U,λ x c h=>?_,λ p hp=>?_⟩
  .rcases List.mem_cons.mp (I3.stkSub b z)with z|z
   .exact(f3 b U).2.1 z
   .exact(f3 b U).2.2.1 z
  .rcases ae x c h with⟨_,_,a3,_⟩|⟨a1,_,_⟩
   .intro z;subst z;exact absurd (ah _ U) (Nat.not_lt.mpr (Nat.le_of_succ_le a3))
   .exact(f3 b U).2.2.2.2.1 x c a1
  .have aD:p∈X.pn++pins:=by
    rcases List.mem_append.mp hp with z|z
    .exact z
    .exact nomatch z
   exact(f3 b U).2.2.2.2.2 p aD
 have loop:codeAny (model X.prog X.w) X.A (.compLoop Ce 0 (.ref it) (.ref l) (blk X N' own scope s3 H3 fp pins).env)
   (compPost (model X.prog X.w) X.A X.xe use Q0 (.ref l) s3.heap.objs.size) { s3 with heap:=pushCells (s3.heap.push { cls:= .type "dict",data:= .dict #[] }) scope.names }:=by
  refine lp (λ n s'=>∃i ab H',Inv (blk X N' own scope s3 H3 fp pins) [] ab H' s'/\ab.take σ.length=σ/\tn i s'.heap/\(∀b∈fp,H' b=none)/\W i n H') ?_ m0
   ⟨0,_,H3,IY,by rw[List.take_left'] <;> rfl,aw,λ b U=>(f3 b U).1,w0⟩;rintro n s5 ⟨i,ax,H5,I5,e5,ay,az,w5⟩;rcases turn i n H5 w5 with⟨stop,q⟩|⟨go,step⟩
  .refine wpAny_mono (T.done (blk X N' own scope s3 H3 fp pins) rfl rfl rfl (hc _ _ _ _) i [] s5 ax H5 (λ _ _=>False) I5 (aa az) ay stop) (λ r s6 hr=>?_) λ _ _ z=>z;obtain⟨rfl,I6⟩:=hr;obtain⟨m,hn,_⟩:=id I6.loc;refine fin l H5 s6 _ m (I3.unblk f3 I6) q hn I6.free (Nat.ne_of_gt I3.lt) I3.sz (λ x c e z=>?_) λ p hp z=>?_;. obtain⟨v,qc⟩:=I3.cell x c e;exact absurd qc.lt (by rw[z];exact Nat.lt_irrefl _)
   .exact absurd (Heap.lt_size (I3.pin p hp).1) (by rw[z];exact Nat.lt_irrefl _)
  .have ai:ax.length=(σ++List.replicate own.length none).length:=by rw[I5.len,List.length_append,List.length_replicate,I.len];show(N'++own).length=_;rw[List.length_append,Mk.len]
   have aE:Inv (blk X N' own scope s3 H3 fp pins) [] (σ++List.replicate own.length none) H5 s5:=I5.weak ai.symm λ j v e=>by
    have hj:j<σ.length:=by
     by_cases hj:j<σ.length;. exact hj
     .rw[List.getElem?_append_right (by omega),List.getElem?_replicate]at e;split at e <;> cases e
    rw[List.getElem?_append_left hj]at e;rw[<- e5,List.getElem?_take_of_lt hj]at e;exact e
   refine wpAny_mono (T.item (blk X N' own scope s3 H3 fp pins) rfl rfl rfl (hc _ _ _ _) i [] s5 _ H5 (λ _ _=>False) aE (aa az) ay go) (λ r s6 hr=>?_) λ _ _ z=>z;obtain⟨u,rfl,h6⟩:=hr;refine cp h6 λ _ s7 ⟨x,H7,I7,r7,y7,aj,aF⟩=>step x H7 y7 _ _ _ _ s7 u _ (I7.pinned (aa aF) (T.obj _ _ aj)) r7 λ {af Ha sa m'} Ia e8 hm wa=>?_
   refine⟨m',hm,i+1,af,Ha,Ia.unpinned,e8,T.keep _ _ _ aj λ b U o e=>(Ia.pin (b,o) (List.mem_append_right _ (List.mem_append_right _ (dP U e)))).1,λ b U=>?_,wa⟩;obtain⟨o,e,d⟩:=T.obj _ _ aj b U;exact(Ia.pin (b,o) (List.mem_append_right _ (List.mem_append_right _ (dP U e)))).2.1
 exact sl loop λ E=>T.self _ 0 _ _ _ aw loop
theorem nV(hc:∀s H fp pins,cal (blk X N' own scope s H fp pins))(hi:G9 cal X tg iter wi)(hk:scope.kind= .function)(hS:dh N' own X.env.scope scope=true)(hM:di X.N N' scope=true)
  (hg:∀s H fp pins,PG (blk X N' own scope s H fp pins) tg g)(ht:∀s H fp pins,sG (blk X N' own scope s H fp pins) ifs tt)(he:∀s H fp pins,PE (blk X N' own scope s H fp pins) elt te)
  (hs:∀x,foldedSetIterable iter X.env x=pure x){use:Option (Value->Sem Unit)}{Q0:Value->Shared->Prop}{pins:List (Addr×Obj)}{s:Shared}{σ:St}{H:Hp}{Q:VK}(I:Inv X pins σ H s)(h:gQ wi own.length g tt te σ H Q)
  (fin:∀(l:Addr)(H':Hp)(s':Shared)(C:Addr)(m:Str->Option Value),Inv X pins σ H' s'->Q (.ref l) H'->s'.heap.Ns C m->H' C=none->C≠X.env.locals->X.s₀.heap.objs.size<=C->(∀x c,X.env.cells.lookup x=some c->c≠C)->(∀p∈X.pn++pins,p.1≠C)->
   compPost (model X.prog X.w) X.A X.xe use Q0 (.ref l) C (.ok .next) s'):
  wpAny (model X.prog X.w) X.A (comprehension (.ListComp elt [⟨tg,iter,ifs,0⟩] scope pos) scope X.env pos' (newList []) false (eval iter X.env) use) Q0 X.xe s:=by
 refine uK (Q:=Q) (ob:= λ _=> .lst []) hc hi hk hS hM hs (K0 X.prog X.w X.A tg ifs elt "list.append") rfl I h (λ h=>wpAny_newObj_type h) (λ I=>I.lnew (its:=[]) .nil (Nat.zero_le _)) (λ I h=>mW I h) (λ h k=>codeAny_compStart_list h (k _)) (λ J H1 l q hn=>?_) fin
 obtain⟨W,⟨m0,w0⟩,turn⟩:=q l hn;refine⟨λ i m H=>∃C,W i m C H,⟨m0,_,w0⟩,λ i m H⟨acc,w⟩=>(turn i m acc H w).2.imp_right λ⟨go,step⟩=>⟨go,λ x H' y s3 H3 fp ps s u K I r ag=>?_⟩⟩
 refine cp (hg s3 H3 fp pins _ s _ H' x u _ I r (step x H' y)) λ _ s8 ⟨o,H8,I8,e8,q8⟩=>cp (ht s3 H3 fp pins _ s8 o H8 _ I8 q8) λ b s9 ⟨H9,I9,q9⟩=>?_;cases b with
 |false=>obtain⟨m',hm,wa⟩:=q9;exact ag I9 e8 hm ⟨_,wa⟩
 |true=>exact cp (he s3 H3 fp pins _ s9 o H9 _ I9 q9) λ y s10 ⟨v,H10,I10,rv,a10,z10,m',hm,wa⟩=>cp (l5 _ s10 o H10 (.ref l) [v] (.ref l) [y] (λ _ Hb=>Hb=upd H10 l (.lst (acc++[v]))) I10 rfl (.cons rv .nil) ⟨l,acc,v,rfl,rfl,a10,z10,rfl⟩) λ _ s11 ⟨_,Hb,Ib,_,eb⟩=>by subst eb;exact ag Ib e8 hm ⟨_,wa⟩
theorem Br(J:PI X tg iter wi)(U:∀s H fp pins,PG (blk X N' own scope s H fp pins) tg g)(ht:∀s H fp pins,sG (blk X N' own scope s H fp pins) ifs tt)(he:∀s H fp pins,PE (blk X N' own scope s H fp pins) elt te)
  (hS:dh N' own X.env.scope scope=true:=by rfl)(hM:di X.N N' scope=true:=by rfl)(hk:scope.kind= .function:=by rfl)(hc:X.calm=true:=by rfl)(hs:∀x,foldedSetIterable iter X.env x=pure x:=by intro _;rfl):
  PE X (.ListComp elt [⟨tg,iter,ifs,0⟩] scope pos) (gQ wi own.length g tt te):=by intro pins s σ H Q I h;refine nV (use:=none) (cal:= λ X=>X.calm=true) (λ _ _ _ _=>hc) J.g hk hS hM U ht he hs I h λ l H' s' C m I' q hn h1 h2 h3 h4 h5=>?_;refine⟨m,hn,λ h' sb=>⟨.ref l,H',?_,rfl,q⟩⟩;exact I'.turned (t':=s'.toks) (λ b o hb e=>(sb.2 b hb).trans e) h1 h2 (.inr h3) h4 h5
theorem CM{J U:Pos}(hN:X.N.Nodup)(aa:X.N[i]?=some x)(hx:X.env.scope.names.lookup x=some .local)
  (hi:PI X tg iter wi)(hg:∀s H fp pins,PG (blk X N' own scope s H fp pins) tg g)(ht:∀s H fp pins,sG (blk X N' own scope s H fp pins) ifs tt)(he:∀s H fp pins,PE (blk X N' own scope s H fp pins) elt te)
  (ab:swapsWith (.ListComp elt [⟨tg,iter,ifs,0⟩] scope pos) (some (.Name x J)) U.line X.env=pure true:=by rfl)
  (hS:dh N' own X.env.scope scope=true:=by rfl)(hM:di X.N N' scope=true:=by rfl)(hk:scope.kind= .function:=by rfl)(hc:X.calm=true:=by rfl)(hs:∀x,foldedSetIterable iter X.env x=pure x:=by intro _;rfl):
  PS X (.Assign [.Name x J] (.ListComp elt [⟨tg,iter,ifs,0⟩] scope pos) U) (lP (gQ wi own.length g tt te) (eD i)):=by
 intro pins s σ H D I h;rw[exec_Assign_Name_used _ _ _ _ ab];refine wpAny_bind (wpAny_standAt (wpAny_bind ?_));refine wpAny_bind (wpAny_mono (Q:= λ _ s'=>SP X pins D .next s') ?_ (λ _ s' hq=>wpAny_pure (wpAny_pure hq)) λ _ _ e=>e);refine nV (use:=some (assign (.Name x J) X.env)) (cal:= λ X=>X.calm=true) (λ _ _ _ _=>hc) hi.g hk hS hM hg ht he hs I h λ l H' s' C m I' q hn h1 h2 h3 h4 h5=>?_;refine wpAny_assign_Name (mD I' hN aa (.inl hx) (v:= .ref l) (u:= .ref l) rfl (λ ae af ag=>?_) (.inr hx));obtain⟨a,sb,ha⟩:=ag;have ah:C≠a:=by grind
 refine⟨m,hn.sameBut sb ah,λ h' ai=>⟨σ.set i (some (.ref l)),H',?_,q⟩⟩;exact af.turned (t':=ae.toks) (λ b o hb e=>(ai.2 b hb).trans e) h1 h2 (.inr h3) h4 h5
end
end L2
namespace Jt
open PySem L2
inductive D where
 | non | bl (b:Bool) | int (i:Int) | str (x:Str) | tup (xs:List D) | lst (xs:List D) | dct | dic (kvs:List (Int × Int)) | dip (kvs:List ((Int × Int) × Int))
noncomputable def kh(a:Addr):HO:= .ext λ h=>a≠sysModules/\∃o n,h.get? a=some o/\o.cls= .type "dict"/\o.data= .dict #[] n
noncomputable abbrev g9(kvs:List (Int×Int)):HO:= .dK (kvs.map λ p=>(.inl p.1,.int p.2))
noncomputable abbrev B9(kvs:List ((Int×Int)×Int)):HO:= .dT (kvs.map λ p=>([.inl p.1.1,.inl p.1.2],.int p.2))
mutual
noncomputable def R (H:Hp):D->V->Prop
 | .non,v=>v=.non
 | .bl b,v=>v=.bl b
 | .int i,v=>v=.int i
 | .str x,v=>v=.str x
 | .tup ds,v=>∃a vs,v=.ref a∧H a=some (.tup vs)∧Rs H ds vs
 | .lst ds,v=>∃a vs,v=.ref a∧Rd H a (.lst vs)∧Rs H ds vs
 | .dct,v=>∃a,v=.ref a∧H a=some (kh a)
 | .dic kvs,v=>∃a,v=.ref a∧H a=some (g9 kvs)
 | .dip kvs,v=>∃a,v=.ref a∧H a=some (B9 kvs)
noncomputable def Rs (H:Hp):List D->List V->Prop
 | [],vs=>vs=[]
 | d :: ds,vs=>∃v r,vs=v :: r∧R H d v∧Rs H ds r
end
theorem Rd.mono(m:∀b o,H b=some o->H' b=some o)(h:Rd H a u):Rd H' a u:=by
 rcases h with h|⟨o,h⟩
 .exact .inl (m _ _ h)
 .exact .inr ⟨o,m _ _ h⟩
mutual
theorem R.mono {H H':Hp} (m:∀b o,H b=some o->H' b=some o):∀(d:D) (v:V),R H d v->R H' d v
 | .non,v,h=>by unfold R at *;exact h
 | .bl b,v,h=>by unfold R at *;exact h
 | .int i,v,h=>by unfold R at *;exact h
 | .str x,v,h=>by unfold R at *;exact h
 | .tup ds,v,h=>by
  unfold R at *
  obtain ⟨a,vs,e,h1,h2⟩:=h
  exact ⟨a,vs,e,m _ _ h1,Rs.mono m ds vs h2⟩
 | .lst ds,v,h=>by
  unfold R at *
  obtain ⟨a,vs,e,h1,h2⟩:=h
  exact ⟨a,vs,e,Rd.mono m h1,Rs.mono m ds vs h2⟩
 | .dct,v,h=>by
  unfold R at *
  obtain ⟨a,e,h1⟩:=h
  exact ⟨a,e,m _ _ h1⟩
 | .dic kvs,v,h=>by
  unfold R at *
  obtain ⟨a,e,h1⟩:=h
  exact ⟨a,e,m _ _ h1⟩
 | .dip kvs,v,h=>by
  unfold R at *
  obtain ⟨a,e,h1⟩:=h
  exact ⟨a,e,m _ _ h1⟩
theorem Rs.mono {H H':Hp} (m:∀b o,H b=some o->H' b=some o):∀(ds:List D) (vs:List V),Rs H ds vs->Rs H' ds vs
 | [],vs,h=>by unfold Rs at *;exact h
 | d :: ds,vs,h=>by
  unfold Rs at *
  obtain ⟨v,r,e,h1,h2⟩:=h
  exact ⟨v,r,e,R.mono m d v h1,Rs.mono m ds r h2⟩
end
theorem Rs.nil:Rs H [] []:=by rfl
theorem Rs.cons{H:Hp}{d:D}{v:V}{ds:List D}{vs:List V}(h:R H d v)(t:Rs H ds vs):Rs H (d::ds) (v::vs):=⟨v,vs,rfl,h,t⟩
theorem Rs.inv(h:Rs H (d::ds) vs):∃v r,vs=v::r/\R H d v/\Rs H ds r:=h
theorem Rs.inv0(h:Rs H [] vs):vs=[]:=h
theorem Rs.head (h:Rs H (d :: ds) (v :: vs)):R H d v:= by
 obtain ⟨v',r,e,h1,h2⟩:=h.inv;simp_all
theorem Rs.tail (h:Rs H (d :: ds) (v :: vs)):Rs H ds vs:= by
 obtain ⟨v',r,e,h1,h2⟩:=h.inv;simp_all
theorem Rs.length:∀{ds:List D}{vs:List V},Rs H ds vs->vs.length=ds.length
 |[],vs,h=>by rw[h.inv0];rfl
 |d::ds,vs,h=>by obtain⟨v,r,e,_,o⟩:=h.inv;subst e;simp[Rs.length o]
theorem Rs.append:∀{ds es:List D}{vs us:List V},Rs H ds vs->Rs H es us->Rs H (ds++es) (vs++us)
 |[],es,vs,us,h,t=>by rw[h.inv0];exact t
 |d::ds,es,vs,us,h,t=>by obtain⟨v,r,e,o,C⟩:=h.inv;subst e;exact .cons o (Rs.append C t)
theorem Rs.left:∀{ds es:List D}{vs us:List V},vs.length=ds.length->Rs H (ds++es) (vs++us)->Rs H ds vs
 |[],es,[],us,_,h=> .nil
 |d::ds,es,v::vs,us,l,h=> .cons h.head (Rs.left (by simp_all) h.tail)
 |[],_,_::_,_,l,_=>by cases l
 |_::_,_,[],_,l,_=>by cases l
theorem Rs.right:∀{ds es:List D}{vs us:List V},vs.length=ds.length->Rs H (ds++es) (vs++us)->Rs H es us
 |[],es,[],us,_,h=>h
 |d::ds,es,v::vs,us,l,h=>Rs.right (ds:=ds) (vs:=vs) (by simpa using l) h.tail
 |[],_,_::_,_,l,_=>by cases l
 |_::_,_,[],_,l,_=>by cases l
theorem Rs.get:∀{ds:List D}{vs:List V}{i:Nat}{d:D},Rs H ds vs->ds[i]?=some d->∃v,vs[i]?=some v/\R H d v
 |[],_,_,_,_,e=>by simp at e
 |d::ds,vs,0,d',h,e=>by obtain⟨v,r,o,C,I⟩:=h.inv;subst o;simp at e;subst e;exact⟨v,rfl,C⟩
 |d::ds,vs,i+1,d',h,e=>by obtain⟨v,r,o,C,I⟩:=h.inv;obtain⟨J,e2,U⟩:=Rs.get (i:=i) I (by simpa using e);exact⟨J,by simp_all,U⟩
theorem R.tup{H:Hp}{ds:List D}{v:V}(h:R H (.tup ds) v):∃a vs,v= .ref a/\H a=some (.tup vs)/\Rs H ds vs:=h
theorem R.lst{H:Hp}{ds:List D}{v:V}(h:R H (.lst ds) v):∃a vs,v= .ref a/\Rd H a (.lst vs)/\Rs H ds vs:=h
theorem R.dct(h:R H .dct v):∃a,v= .ref a/\H a=some (kh a):=h
theorem R.dic(h:R H (.dic kvs) v):∃a,v= .ref a/\H a=some (g9 kvs):=h
theorem R.mkDic(h:H a=some (g9 kvs)):R H (.dic kvs) (.ref a):=⟨a,rfl,h⟩
theorem R.dip(h:R H (.dip kvs) v):∃a,v= .ref a/\H a=some (B9 kvs):=h
theorem R.mkD(h:H a=some (kh a)):R H .dct (.ref a):=⟨a,rfl,h⟩
theorem R.int(h:R H (.int i) v):v= .int i:=h
theorem R.bl(h:R H (.bl i) v):v= .bl i:=h
theorem R.str(h:R H (.str i) v):v= .str i:=h
theorem R.non(h:R H .non v):v= .non:=h
theorem R.mkI:R H (.int i) (.int i):=by rfl
theorem R.mkB:R H (.bl i) (.bl i):=by rfl
theorem R.mkS:R H (.str i) (.str i):=by rfl
theorem R.mkN:R H .non .non:=by rfl
theorem R.mkT{ds:List D}{vs:List V}(h:H a=some (.tup vs))(t:Rs H ds vs):R H (.tup ds) (.ref a):=⟨a,vs,rfl,h,t⟩
theorem R.mkL{vs:List V}(h:Rd H a (.lst vs))(t:Rs H ds vs):R H (.lst ds) (.ref a):=⟨a,vs,rfl,h,t⟩
inductive Slot where
 | un | pu (d:D) | ow (b:Bool) (xs:List D) | od (ks:List (List Int))
noncomputable abbrev DS:=List Slot
structure Ct where
 Z:Hp
 B:List Addr
 H0:Hp
noncomputable def KS(o:DS)(σ:St)(a:Addr):Prop:=∃(i:Nat) (b:Bool) (xs:List D),o[i]?=some (.ow b xs)/\σ[i]?=some (some (.ref a))
noncomputable abbrev K4(ks:List (List Int)):HO:= .dT (ks.map λ k=>(k.map .inl,.bl true))
noncomputable def KZ(o:DS)(σ:St)(a:Addr):Prop:=∃(i:Nat) (ks:List (List Int)),o[i]?=some (.od ks)/\σ[i]?=some (some (.ref a))
noncomputable def Oa(o:DS)(σ:St)(a:Addr):Prop:=KS o σ a\/KZ o σ a
open Classical in
noncomputable def BP(p:Addr->Prop)(H:Hp):Hp:= λ a=>if p a then none else H a
noncomputable def Hd(c:Ct)(C:DS)(σ:St)(a:Addr):Prop:=(∃o,c.Z a=some o)\/Oa C σ a
noncomputable abbrev fg(c:Ct)(o:DS)(σ:St)(H:Hp):Hp:=BP (Hd c o σ) H
theorem dG:BP p H a=some o↔ ¬p a/\H a=some o:=by unfold BP;simp
theorem bq{p q:Addr->Prop}{H H':Hp}(J:∀a o,H a=some o->q a->p a)(U:∀a o,¬p a->H a=some o->H' a=some o):∀b o,BP p H b=some o->BP q H' b=some o:= λ b o h=>by obtain⟨C,I⟩:=dG.mp h;exact dG.mpr ⟨λ z=>C (J b o I z),U b o C I⟩
noncomputable def EY(Z H:Hp):Prop:=∀a o,Z a=some o->H a=some o/\∀xs,o≠ .tup xs
structure Sl (c:Ct) (δ:DS) (S:List D) (σ:St) (T:List V) (H:Hp):Prop where
 len:δ.length=σ.length
 pu:∀(i:Nat) d,δ[i]? = some (.pu d)->∃v,σ[i]? = some (some v)∧R (fg c δ σ H) d v
 ow:∀(i:Nat) b xs,δ[i]? = some (.ow b xs)->∃a vs,σ[i]? = some (some (.ref a))∧H a=some (.lst vs)∧Rs (fg c δ σ H) xs vs∧(b=true->a ∈ c.B)∧(b=false->a ∉ c.B∧c.H0 a=none)∧c.Z a=none
 ne:∀(i j:Nat) b b' xs ys a,δ[i]? = some (.ow b xs)->δ[j]? = some (.ow b' ys)->σ[i]? = some (some (.ref a))->σ[j]? = some (some (.ref a))->i=j
 st:Rs (fg c δ σ H) S T
 keep:∀b o,b ∉ c.B->c.H0 b=some o->H b=some o
 bb:∀b ∈ c.B,∃o,H b=some o
 zk:EY c.Z H
 od:∀(i:Nat) ks,δ[i]? = some (.od ks)->∃a,σ[i]? = some (some (.ref a))∧H a=some (K4 ks)∧a ∉ c.B∧c.H0 a=none∧c.Z a=none
 nd:∀(i j:Nat) ks ls a,δ[i]? = some (.od ks)->δ[j]? = some (.od ls)->σ[i]? = some (some (.ref a))->σ[j]? = some (some (.ref a))->i=j
section
variable {c:Ct} {δ:DS} {S:List D} {σ:St} {T:List V} {H:Hp}
theorem Sl.zz(s:Sl c δ S σ T H):∀a o,c.Z a=some o->H a=some o:= λ a o h=>(s.zk a o h).1
theorem Sl.hdSome(s:Sl c δ S σ T H){a:Addr}(h:Hd c δ σ a):∃o,H a=some o:=by
 rcases h with⟨o,h⟩|⟨i,b,xs,C,I⟩|⟨i,ks,C,I⟩
 .exact⟨o,s.zz _ _ h⟩
 .obtain⟨U,vs,e,J,_⟩:=s.ow i b xs C;simp_all
 .obtain⟨U,e,J,_⟩:=s.od i ks C;rw[I]at e;cases e;exact⟨_,J⟩
theorem Sl.stk(s:Sl c δ S σ T H){S':List D}{T':List V}(h:Rs (fg c δ σ H) S' T'):Sl c δ S' σ T' H:=⟨s.len,s.pu,s.ow,s.ne,h,s.keep,s.bb,s.zk,s.od,s.nd⟩
theorem Sl.pop(s:Sl c δ (d::S) σ (v::T) H):Sl c δ S σ T H:=s.stk s.st.tail
theorem Sl.grow(s:Sl c δ S σ T H){H':Hp}(g:fM H H'):Sl c δ S σ T H':=by
 have m:∀b o,fg c δ σ H b=some o->fg c δ σ H' b=some o:=bq (λ _ _ _ z=>z) λ a o _ h=>g a o h;refine⟨s.len,λ i d h=>?_,λ i b xs h=>?_,s.ne,s.st.mono m,λ b o C I=>g _ _ (s.keep b o C I),λ b U=>?_,λ a o hz=>⟨g _ _ (s.zz a o hz),(s.zk a o hz).2⟩,λ i ks h=>?_,s.nd⟩;. obtain⟨v,e,r⟩:=s.pu i d h;exact⟨v,e,r.mono m⟩
 .obtain⟨a,vs,e,C,I,J⟩:=s.ow i b xs h;exact⟨a,vs,e,g _ _ C,I.mono m,J⟩
 .obtain⟨o,h⟩:=s.bb b U;exact⟨o,g _ _ h⟩
 .obtain⟨a,e,C,J⟩:=s.od i ks h;exact⟨a,e,g _ _ C,J⟩
theorem dt(h:H p=none)(o:HO):fM H (upd H p o):= λ b u q=>by rw[aZ (bP q h)];exact q
theorem Sl.hdNew(s:Sl c δ S σ T H){p:Addr}(h:H p=none): ¬Hd c δ σ p:= λ z=>by obtain⟨o,e⟩:=s.hdSome z;simp_all
theorem Sl.fresh(s:Sl c δ S σ T H){p:Addr}(h:H p=none):c.Z p=none/\p∉c.B/\c.H0 p=none:=by
 have hB:p∉c.B:= λ z=>by obtain⟨o,e⟩:=s.bb p z;simp_all
 refine⟨?_,hB,?_⟩;. cases e:c.Z p with
  |none=>rfl
  |some o=>have:=s.zz p o e;rw[h]at this;cases this
 .cases e:c.H0 p with
  |none=>rfl
  |some o=>have:=s.keep p o hB e;rw[h]at this;cases this
theorem Sl.newTup(s:Sl c δ (ds++S) σ (vs++T) H)(l:vs.length=ds.length){p:Addr}(h:H p=none):Sl c δ (.tup ds::S) σ (.ref p::T) (upd H p (.tup vs)):=by have o:=s.grow (dt h (.tup vs));exact o.stk (.cons (.mkT (dG.mpr ⟨s.hdNew h,bf⟩) (o.st.left l)) (o.st.right l))
theorem Sl.hide(s:Sl c δ S σ T H){p:Addr}{o:HO}(h:H p=none)(hn:∀xs,o≠ .tup xs:=by exact λ _ h=>nomatch h):Sl { c with Z:=upd c.Z p o } δ S σ T (upd H p o):=by
 have g:=dt h o;have m:∀b u,fg c δ σ H b=some u->fg { c with Z:=upd c.Z p o } δ σ (upd H p o) b=some u:=bq (λ a u e z=>by
  rcases z with⟨w,z⟩|z
  .have:a≠p:= λ q=>by rw[q,h]at e;cases e
   exact .inl ⟨w,(show c.Z a=upd c.Z p o a from(aZ this).symm).trans z⟩
  .exact .inr z) λ a u _ e=>g a u e;refine⟨s.len,λ i d e=>?_,λ i b xs e=>?_,s.ne,s.st.mono m,λ b u I J=>g _ _ (s.keep b u I J),λ b hb=>?_,λ a u hz=>?_,λ i ks e=>?_,s.nd⟩;. obtain⟨v,e,r⟩:=s.pu i d e;exact⟨v,e,r.mono m⟩
 .obtain⟨a,vs,e,I,J,U,h4,h5⟩:=s.ow i b xs e;refine⟨a,vs,e,g _ _ I,J.mono m,U,h4,?_⟩;show upd c.Z p o a=none;rw[aZ λ q=>by rw[q,h]at I;cases I];omega
 .obtain⟨u,e⟩:=s.bb b hb;exact⟨u,g _ _ e⟩
 .have C:upd c.Z p o a=some u:=hz;by_cases q:a=p;. subst q;rw[bf]at C|-;exact⟨C,by cases C;exact hn⟩
  .rw[aZ q]at C|-;exact s.zk a u C
 .obtain⟨a,e,I,U,h4,h5⟩:=s.od i ks e;refine⟨a,e,g _ _ I,U,h4,?_⟩;show upd c.Z p o a=none;rw[aZ λ q=>by rw[q,h]at I;cases I];exact h5
theorem Sl.noOw(s:Sl { c with Z:=upd c.Z p o } δ S σ T H): ¬Oa δ σ p:= λ z=>by
 rcases z with⟨i,b,xs,I,J⟩|⟨i,ks,I,J⟩
 .obtain⟨a,vs,e,_,_,_,_,U⟩:=s.ow i b xs I;rw[J]at e;cases e;have C:upd c.Z p o p=none:=U;rw[bf]at C;grind
 .obtain⟨a,e,_,_,_,U⟩:=s.od i ks I;rw[J]at e;cases e;have C:upd c.Z p o p=none:=U;rw[bf]at C;cases C
theorem Sl.hideSet(J:HO)(s:Sl { c with Z:=upd c.Z p o } δ S σ T H)(hB:p∉c.B)(h0:c.H0 p=none)(hn:∀xs,J≠ .tup xs:=by exact λ _ h=>nomatch h):Sl { c with Z:=upd c.Z p J } δ S σ T (upd H p J):=by
 have npow:=s.noOw;have m:∀b u,fg { c with Z:=upd c.Z p o } δ σ H b=some u->fg { c with Z:=upd c.Z p J } δ σ (upd H p J) b=some u:=bq (λ a u e z=>by
  rcases z with⟨w,z⟩|z
  .have z':upd c.Z p J a=some w:=z;by_cases q:a=p;. subst q;exact .inl ⟨o,bf⟩
   .rw[aZ q]at z';exact .inl ⟨w,by show upd c.Z p o a=some w;rw[aZ q];exact z'⟩
  .exact .inr z) λ a u ha e=>by have:a≠p:= λ z=>ha (.inl ⟨o,by rw[z];exact bf⟩);rw[aZ this];exact e
 refine⟨s.len,λ i d e=>?_,λ i b xs e=>?_,s.ne,s.st.mono m,λ b u h1 h2=>?_,λ b hb=>?_,λ a u hz=>?_,λ i ks e=>?_,s.nd⟩;. obtain⟨v,e,r⟩:=s.pu i d e;exact⟨v,e,r.mono m⟩
 .have hx:=e;obtain⟨a,vs,e,h1,h2,h3,h4,h5⟩:=s.ow i b xs e;have C:a≠p:= λ z=>npow (.inl ⟨i,b,xs,hx,by rw[e,z]⟩);refine⟨a,vs,e,by rw[aZ C];exact h1,h2.mono m,h3,h4,?_⟩;have U:upd c.Z p o a=none:=h5;show upd c.Z p J a=none;rw[aZ C]at U|-;omega
 .have:b≠p:= λ z=>by have aa:c.H0 b=some u:=h2;rw[z,h0]at aa;cases aa
  rw[aZ this];exact s.keep b u h1 h2
 .have:b≠p:= λ z=>hB (z▸hb);rw[aZ this];exact s.bb b hb
 .have I:upd c.Z p J a=some u:=hz;by_cases q:a=p;. subst q;rw[bf]at I|-;exact⟨I,by cases I;exact hn⟩
  .rw[aZ q]at I|-;exact s.zk a u (by show upd c.Z p o a=some u;rw[aZ q];exact I)
 .have hx:=e;obtain⟨a,e,h1,h3,h4,h5⟩:=s.od i ks e;have C:a≠p:= λ z=>npow (.inr ⟨i,ks,hx,by rw[e,z]⟩);refine⟨a,e,by rw[aZ C];exact h1,h3,h4,?_⟩;have U:upd c.Z p o a=none:=h5;show upd c.Z p J a=none;rw[aZ C]at U|-;exact U
theorem Sl.unhideL{vs:List V}(s:Sl { c with Z:=upd c.Z p (.lst vs) } δ (xs++S) σ (vs++T) H)(l:vs.length=xs.length)(C:c.Z p=none):Sl c δ (.lst xs::S) σ (.ref p::T) H:=by
 have I:H p=some (.lst vs):=s.zz p _ bf;have npow:=s.noOw;have zc:∀a u,c.Z a=some u->upd c.Z p (.lst vs) a=some u:= λ a u h=>by rw[aZ λ q=>by rw[q,C]at h;cases h];exact h
 have m:∀b u,fg { c with Z:=upd c.Z p (.lst vs) } δ σ H b=some u->fg c δ σ H b=some u:=bq (λ a u e z=>by
  rcases z with⟨w,z⟩|z
  .exact .inl ⟨w,zc a w z⟩
  .exact .inr z) λ a u ha e=>e;refine⟨s.len,λ i d e=>?_,λ i b xs e=>?_,s.ne,.cons (.mkL (.inl (dG.mpr ⟨λ z=>?_,I⟩)) ((s.st.left l).mono m)) ((s.st.right l).mono m),s.keep,s.bb,λ a u hz=>s.zk a u (zc a u hz),λ i ks e=>?_,s.nd⟩;. obtain⟨v,e,r⟩:=s.pu i d e;exact⟨v,e,r.mono m⟩
 .obtain⟨a,J,e,U,h2,h3,h4,h5⟩:=s.ow i b xs e;refine⟨a,J,e,U,h2.mono m,h3,h4,?_⟩;have o:upd c.Z p (.lst vs) a=none:=h5;by_cases q:a=p;. rw[q];exact C
  .rwa [aZ q]at o
 .rcases z with⟨u,z⟩|z
  .rw[C]at z;cases z
  .exact npow z
 .obtain⟨a,e,U,h3,h4,h5⟩:=s.od i ks e;refine⟨a,e,U,h3,h4,?_⟩;have o:upd c.Z p (.lst vs) a=none:=h5;by_cases q:a=p;. rw[q];exact C
  .rwa [aZ q]at o
theorem Sl.setPu(s:Sl c δ (d::S) σ (v::T) H)(hi:i<δ.length):Sl c (δ.set i (.pu d)) S (σ.set i (some v)) T H:=by
 have aa:∀a,Oa (δ.set i (.pu d)) (σ.set i (some v)) a->Oa δ σ a:= λ a z=>by
  rcases z with⟨j,b,xs,o,C⟩|⟨j,ks,o,C⟩ <;> by_cases e:i=j
  .subst e;rw[List.getElem?_set_self hi]at o;cases o
  .rw[List.getElem?_set_ne e]at o C;exact .inl ⟨j,b,xs,o,C⟩
  .subst e;rw[List.getElem?_set_self hi]at o;cases o
  .rw[List.getElem?_set_ne e]at o C;exact .inr ⟨j,ks,o,C⟩
 have m:∀b u,fg c δ σ H b=some u->fg c (δ.set i (.pu d)) (σ.set i (some v)) H b=some u:=bq (λ a u e z=>z.elim .inl λ z=> .inr (aa a z)) λ a u _ e=>e;refine⟨by simpa using s.len,λ j d' h=>?_,λ j b xs h=>?_,λ j k b b' xs ys a o C I U=>?_,s.st.tail.mono m,s.keep,s.bb,s.zk,λ j ks h=>?_,λ j k ks ls a o C I U=>?_⟩
 .by_cases e:i=j
  .subst e;rw[List.getElem?_set_self hi]at h;cases h;exact⟨v,by rw[List.getElem?_set_self (by rw[<- s.len];exact hi)],s.st.head.mono m⟩
  .rw[List.getElem?_set_ne e]at h|-;obtain⟨v',J,r⟩:=s.pu j d' h;exact⟨v',J,r.mono m⟩
 .by_cases e:i=j;. subst e;rw[List.getElem?_set_self hi]at h;cases h
  .rw[List.getElem?_set_ne e]at h|-;obtain⟨a,vs,e,o,C,I⟩:=s.ow j b xs h;exact⟨a,vs,e,o,C.mono m,I⟩
 .by_cases e:i=j;. subst e;rw[List.getElem?_set_self hi]at o;cases o
  .by_cases J:i=k;. subst J;rw[List.getElem?_set_self hi]at C;cases C
   .rw[List.getElem?_set_ne e]at o I;rw[List.getElem?_set_ne J]at C U;exact s.ne j k b b' xs ys a o C I U
 .by_cases e:i=j;. subst e;rw[List.getElem?_set_self hi]at h;cases h
  .rw[List.getElem?_set_ne e]at h|-;exact s.od j ks h
 .by_cases e:i=j;. subst e;rw[List.getElem?_set_self hi]at o;cases o
  .by_cases J:i=k;. subst J;rw[List.getElem?_set_self hi]at C;cases C
   .rw[List.getElem?_set_ne e]at o I;rw[List.getElem?_set_ne J]at C U;exact s.nd j k ks ls a o C I U
theorem Sl.setOw{vs:List V}{i:Nat}(s:Sl { c with Z:=upd c.Z p (.lst vs) } δ (xs++S) σ (vs++T) H)(l:vs.length=xs.length)(hp:c.Z p=none)(hB:p∉c.B)(h0:c.H0 p=none)(hi:i<δ.length):
  Sl c (δ.set i (.ow false xs)) S (σ.set i (some (.ref p))) T H:=by
 have ab:H p=some (.lst vs):=s.zz p _ bf;have npow:∀(j:Nat) b ys,δ[j]?=some (.ow b ys)->σ[j]?≠some (some (.ref p)):= λ j b ys o C=>s.noOw (.inl ⟨j,b,ys,o,C⟩);have zc:∀a u,c.Z a=some u->upd c.Z p (.lst vs) a=some u:= λ a u h=>by rw[aZ λ q=>by rw[q,hp]at h;cases h];exact h
 have I:i<σ.length:=by rw[<- s.len];exact hi
 have m:∀b u,fg { c with Z:=upd c.Z p (.lst vs) } δ σ H b=some u->fg c (δ.set i (.ow false xs)) (σ.set i (some (.ref p))) H b=some u:=bq (λ a u e z=>by
  rcases z with⟨w,z⟩|⟨j,b,ys,o,C⟩|⟨j,ks,o,C⟩
  .exact .inl ⟨w,zc a w z⟩
  .by_cases e:i=j
   .subst e;rw[List.getElem?_set_self I]at C;cases C;exact .inl ⟨_,bf⟩
   .rw[List.getElem?_set_ne e]at o C;exact .inr (.inl ⟨j,b,ys,o,C⟩)
  .by_cases e:i=j;. subst e;rw[List.getElem?_set_self hi]at o;cases o
   .rw[List.getElem?_set_ne e]at o C;exact .inr (.inr ⟨j,ks,o,C⟩)) λ a u _ e=>e;refine⟨by simpa using s.len,λ j d' h=>?_,λ j b ys h=>?_,λ j k b b' ys zs a o C U J=>?_,(s.st.right l).mono m,s.keep,s.bb,λ a u hz=>s.zk a u (zc a u hz),λ j ks h=>?_,λ j k ks ls a o C U J=>?_⟩
 .by_cases e:i=j;. subst e;rw[List.getElem?_set_self hi]at h;cases h
  .rw[List.getElem?_set_ne e]at h|-;obtain⟨v',e',r⟩:=s.pu j d' h;exact⟨v',e',r.mono m⟩
 .by_cases e:i=j;. subst e;rw[List.getElem?_set_self hi]at h;cases h;exact⟨p,vs,by rw[List.getElem?_set_self I],ab,(s.st.left l).mono m,(λ z=>absurd z Bool.false_ne_true),(λ _=>⟨hB,h0⟩),hp⟩
  .rw[List.getElem?_set_ne e]at h|-;have hx:=h;obtain⟨a,ws,e,o,C,U,J,h5⟩:=s.ow j b ys h;refine⟨a,ws,e,o,C.mono m,U,J,?_⟩;have aa:upd c.Z p (.lst vs) a=none:=h5;rwa [aZ λ q=>npow j b ys hx (by rw[e,q])]at aa
 .by_cases e:i=j
  .subst e;rw[List.getElem?_set_self I]at U;cases U;by_cases e':i=k;. exact e'
   .rw[List.getElem?_set_ne e']at C J;exact absurd J (npow k b' zs C)
  .rw[List.getElem?_set_ne e]at o U;by_cases e':i=k;. subst e';rw[List.getElem?_set_self I]at J;cases J;exact absurd U (npow j b ys o)
   .rw[List.getElem?_set_ne e']at C J;exact s.ne j k b b' ys zs a o C U J
 .by_cases e:i=j;. subst e;rw[List.getElem?_set_self hi]at h;cases h
  .rw[List.getElem?_set_ne e]at h|-;have hx:=h;obtain⟨a,e,o,U,J,h5⟩:=s.od j ks h;refine⟨a,e,o,U,J,?_⟩;have aa:upd c.Z p (.lst vs) a=none:=h5;rwa [aZ λ q=>s.noOw (.inr ⟨j,ks,hx,by rw[e,q]⟩)]at aa
 .by_cases e:i=j;. subst e;rw[List.getElem?_set_self hi]at o;cases o
  .by_cases e':i=k;. subst e';rw[List.getElem?_set_self hi]at C;cases C
   .rw[List.getElem?_set_ne e]at o U;rw[List.getElem?_set_ne e']at C J;exact s.nd j k ks ls a o C U J
theorem Sl.giveOw{xs:List D}{i:Nat}(s:Sl c δ S σ T H)(hi:δ[i]?=some (.ow false xs))(ha:σ[i]?=some (some (.ref a))):
  ∃vs,vs.length=xs.length/\Sl { c with Z:=upd c.Z a (.lst vs) } (δ.set i .un) (xs++S) σ (vs++T) H/\c.Z a=none/\a∉c.B/\c.H0 a=none:=by
 have o:i<δ.length:=(List.getElem?_eq_some_iff.mp hi).1;obtain⟨a',vs,e,hH,hv,_,hB,hZ⟩:=s.ow i false xs hi;rw[ha]at e;cases e;have od':∀(j:Nat) ks x,δ[j]?=some (.od ks)->σ[j]?=some (some (.ref x))->x≠a:= λ j ks x C I q=>by
  obtain⟨x',e,J,_⟩:=s.od j ks C;rw[I]at e;cases e;rw[q,hH]at J;cases J
 have aa:∀b,Oa (δ.set i .un) σ b->Oa δ σ b/\b≠a:= λ b z=>by
  rcases z with⟨j,bb,ys,C,I⟩|⟨j,ks,C,I⟩ <;> by_cases e:i=j
  .subst e;rw[List.getElem?_set_self o]at C;cases C
  .rw[List.getElem?_set_ne e]at C;exact⟨.inl ⟨j,bb,ys,C,I⟩,λ q=>e (s.ne i j _ _ _ _ a hi C ha (by rw[I,q]))⟩
  .subst e;rw[List.getElem?_set_self o]at C;cases C
  .rw[List.getElem?_set_ne e]at C;exact⟨.inr ⟨j,ks,C,I⟩,od' j ks b C I⟩
 have m:∀b u,fg c δ σ H b=some u->fg { c with Z:=upd c.Z a (.lst vs) } (δ.set i .un) σ H b=some u:=bq (λ b u e z=>by
  rcases z with⟨w,z⟩|z
  .by_cases q:b=a;. subst q;exact .inr (.inl ⟨i,false,xs,hi,ha⟩)
   .exact .inl ⟨w,(show c.Z b=upd c.Z a (.lst vs) b from(aZ q).symm).trans z⟩
  .exact .inr (aa b z).1) λ b u _ e=>e;refine⟨vs,hv.length,⟨by simpa using s.len,λ j d h=>?_,λ j b ys h=>?_,λ j k b b' ys zs x C I J h4=>?_,(hv.append s.st).mono m,s.keep,s.bb,λ x u hz=>?_,λ j ks h=>?_,λ j k ks ls x C I J h4=>?_⟩,hZ,(hB rfl).1,(hB rfl).2⟩
 .have e:i≠j:= λ e=>by subst e;rw[List.getElem?_set_self o]at h;cases h
  rw[List.getElem?_set_ne e]at h;obtain⟨v',e',r⟩:=s.pu j d h;exact⟨v',e',r.mono m⟩
 .have e:i≠j:= λ e=>by subst e;rw[List.getElem?_set_self o]at h;cases h
  rw[List.getElem?_set_ne e]at h;obtain⟨b1,ws,e',C,I,J,h4,h5⟩:=s.ow j b ys h;refine⟨b1,ws,e',C,I.mono m,J,h4,?_⟩;show upd c.Z a (.lst vs) b1=none;rw[aZ λ q=>e (s.ne i j _ _ _ _ a hi h ha (by rw[e',q]))];omega
 .have g:∀(j:Nat) b ys,(δ.set i Slot.un)[j]?=some (.ow b ys)->δ[j]?=some (.ow b ys):= λ j b ys h=>by
   have e:i≠j:= λ e=>by subst e;rw[List.getElem?_set_self o]at h;cases h
   rwa [List.getElem?_set_ne e]at h
  exact s.ne j k b b' ys zs x (g _ _ _ C) (g _ _ _ I) J h4
 .have U:upd c.Z a (.lst vs) x=some u:=hz;by_cases q:x=a;. subst q;rw[bf]at U;cases U;exact⟨hH,λ _ h=>nomatch h⟩
  .rw[aZ q]at U;exact s.zk x u U
 .have e:i≠j:= λ e=>by subst e;rw[List.getElem?_set_self o]at h;cases h
  rw[List.getElem?_set_ne e]at h;obtain⟨b1,e',C,J,h4,h5⟩:=s.od j ks h;refine⟨b1,e',C,J,h4,?_⟩;show upd c.Z a (.lst vs) b1=none;rw[aZ (od' j ks b1 h e')];exact h5
 .have g:∀(j:Nat) ks,(δ.set i Slot.un)[j]?=some (.od ks)->δ[j]?=some (.od ks):= λ j ks h=>by
   have e:i≠j:= λ e=>by subst e;rw[List.getElem?_set_self o]at h;cases h
   rwa [List.getElem?_set_ne e]at h
  exact s.nd j k ks ls x (g _ _ C) (g _ _ I) J h4
theorem Sl.mut{U:Bool}{xs J:List D}{aa:List V}{i:Nat}(s:Sl c δ S σ T H)(hi:δ[i]?=some (.ow U xs))(ha:σ[i]?=some (some (.ref a)))(hv:Rs (fg c δ σ H) J aa):
  Sl c (δ.set i (.ow U J)) S σ T (upd H a (.lst aa)):=by
 have C:i<δ.length:=(List.getElem?_eq_some_iff.mp hi).1;obtain⟨a',vs,e,hH,_,hB,ab,hZ⟩:=s.ow i U xs hi;rw[ha]at e;cases e;have ae:∀b,Oa (δ.set i (.ow U J)) σ b->Oa δ σ b:= λ b z=>by
  rcases z with⟨j,bb,ys,o,I⟩|⟨j,ks,o,I⟩ <;> by_cases e:i=j
  .subst e;exact .inl ⟨i,U,xs,hi,I⟩
  .rw[List.getElem?_set_ne e]at o;exact .inl ⟨j,bb,ys,o,I⟩
  .subst e;rw[List.getElem?_set_self C]at o;cases o
  .rw[List.getElem?_set_ne e]at o;exact .inr ⟨j,ks,o,I⟩
 have m:∀b u,fg c δ σ H b=some u->fg c (δ.set i (.ow U J)) σ (upd H a (.lst aa)) b=some u:=bq (λ b u e z=>z.elim .inl λ z=> .inr (ae b z)) λ b u hb e=>by have:b≠a:= λ z=>hb (.inr (.inl ⟨i,U,xs,hi,by rw[z];exact ha⟩));rw[aZ this];exact e
 refine⟨by simpa using s.len,λ j d' h=>?_,λ j b ys h=>?_,λ j k b b' ys zs x o I h3 h4=>?_,s.st.mono m,λ b u o I=>?_,λ b hb=>?_,λ x u hz=>?_,λ j ks h=>?_,λ j k ks ls x o I h3 h4=>?_⟩
 .have e:i≠j:= λ e=>by subst e;rw[List.getElem?_set_self C]at h;cases h
  rw[List.getElem?_set_ne e]at h;obtain⟨v',e',r⟩:=s.pu j d' h;exact⟨v',e',r.mono m⟩
 .by_cases e:i=j;. subst e;rw[List.getElem?_set_self C]at h;cases h;exact⟨a,aa,ha,bf,hv.mono m,hB,ab,hZ⟩
  .rw[List.getElem?_set_ne e]at h;obtain⟨b1,ws,e',o,I,h3⟩:=s.ow j b ys h;have:b1≠a:= λ z=>e (s.ne i j _ _ xs ys a hi h ha (by rw[e',z]));exact⟨b1,ws,e',by rw[aZ this];exact o,I.mono m,h3⟩
 .have g:∀(j:Nat) b ys,(δ.set i (.ow U J))[j]?=some (.ow b ys)->∃b ys,δ[j]?=some (.ow b ys):= λ j b ys h=>by
   by_cases e:i=j;. subst e;exact⟨U,xs,hi⟩
   .rw[List.getElem?_set_ne e]at h;exact⟨b,ys,h⟩
  obtain⟨c1,af,o⟩:=g j b ys o;obtain⟨c2,ag,I⟩:=g k b' zs I;exact s.ne j k c1 c2 af ag x o I h3 h4
 .have:b≠a:= λ z=>by subst z;cases U with
   |true=>exact o (hB rfl)
   |false=>rw[(ab rfl).2]at I;cases I
  rw[aZ this];exact s.keep b u o I
 .by_cases e:b=a;. subst e;exact⟨_,bf⟩
  .rw[aZ e];exact s.bb b hb
 .have:x≠a:= λ e=>by rw[e,hZ]at hz;cases hz
  rw[aZ this];exact s.zk x u hz
 .have e:i≠j:= λ e=>by subst e;rw[List.getElem?_set_self C]at h;cases h
  rw[List.getElem?_set_ne e]at h;obtain⟨x,e',o,h3⟩:=s.od j ks h;have:x≠a:= λ z=>by rw[z,hH]at o;cases o
  exact⟨x,e',by rw[aZ this];exact o,h3⟩
 .have g:∀(j:Nat) ks,(δ.set i (.ow U J))[j]?=some (.od ks)->δ[j]?=some (.od ks):= λ j ks h=>by
   have e:i≠j:= λ e=>by subst e;rw[List.getElem?_set_self C]at h;cases h
   simp_all
  exact s.nd j k ks ls x (g _ _ o) (g _ _ I) h3 h4
theorem Sl.ext(s:Sl c δ S σ T H)(k:Nat):Sl c (δ++List.replicate k .un) S (σ++List.replicate k none) T H:=by
 have g:∀(i:Nat) x,(δ++List.replicate k Slot.un)[i]?=some x->x≠ .un->δ[i]?=some x:= λ i x h n=>by
  by_cases hi:i<δ.length;. rwa [List.getElem?_append_left hi]at h
  .rw[List.getElem?_append_right (by omega),List.getElem?_replicate]at h;split at h;. exact absurd (Option.some.inj h).symm n
   .cases h
 have C:∀(i:Nat) x,δ[i]?=some x->(σ++List.replicate k none)[i]?=σ[i]?:= λ i x h=>by rw[List.getElem?_append_left (by rw[<- s.len];exact(List.getElem?_eq_some_iff.mp h).1)]
 have aa:∀a,Oa (δ++List.replicate k .un) (σ++List.replicate k none) a->Oa δ σ a:= λ a z=>by
  rcases z with⟨j,b,xs,J,U⟩|⟨j,ks,J,U⟩ <;> have o:=g j _ J (by simp) <;> rw[C j _ o]at U
  .exact .inl ⟨j,b,xs,o,U⟩
  .exact .inr ⟨j,ks,o,U⟩
 have m:∀b u,fg c δ σ H b=some u->fg c (δ++List.replicate k .un) (σ++List.replicate k none) H b=some u:=bq (λ a u e z=>z.elim .inl λ z=> .inr (aa a z)) λ a u _ e=>e;refine⟨by simp[s.len],λ j d' h=>?_,λ j b xs h=>?_,λ j l b b' xs ys a J U h3 h4=>?_,s.st.mono m,s.keep,s.bb,s.zk,λ j ks h=>?_,λ j l ks ls a J U h3 h4=>?_⟩;. have h':=g j _ h (by simp);obtain⟨v,e,r⟩:=s.pu j d' h';exact⟨v,by rw[C j _ h'];exact e,r.mono m⟩
 .have h':=g j _ h (by simp);obtain⟨a,vs,e,J,U,h3⟩:=s.ow j b xs h';exact⟨a,vs,by rw[C j _ h'];exact e,J,U.mono m,h3⟩
 .have o:=g j _ J (by simp);have I:=g l _ U (by simp);rw[C j _ o]at h3;rw[C l _ I]at h4;exact s.ne j l b b' xs ys a o I h3 h4
 .have h':=g j _ h (by simp);obtain⟨a,e,J⟩:=s.od j ks h';exact⟨a,by rw[C j _ h'];exact e,J⟩
 .have o:=g j _ J (by simp);have I:=g l _ U (by simp);rw[C j _ o]at h3;rw[C l _ I]at h4;exact s.nd j l ks ls a o I h3 h4
theorem Sl.cut(s:Sl c δ S σ T H)(n:Nat):Sl c (δ.take n) S (σ.take n) T H:=by
 have g:∀(i:Nat) x,(δ.take n)[i]?=some x->i<n/\δ[i]?=some x:= λ i x h=>by
  have hi:i<n:=by have:=(List.getElem?_eq_some_iff.mp h).1;rw[List.length_take]at this;omega
  simp_all
 have ab:∀a,Oa (δ.take n) (σ.take n) a->Oa δ σ a:= λ a z=>by
  rcases z with⟨j,b,xs,I,J⟩|⟨j,ks,I,J⟩ <;> obtain⟨C,o⟩:=g j _ I <;> rw[List.getElem?_take_of_lt C]at J
  .exact .inl ⟨j,b,xs,o,J⟩
  .exact .inr ⟨j,ks,o,J⟩
 have m:∀b u,fg c δ σ H b=some u->fg c (δ.take n) (σ.take n) H b=some u:=bq (λ a u e z=>z.elim .inl λ z=> .inr (ab a z)) λ a u _ e=>e;refine⟨by simp[s.len],λ j d' h=>?_,λ j b xs h=>?_,λ j l b b' xs ys a I J U h4=>?_,s.st.mono m,s.keep,s.bb,s.zk,λ j ks h=>?_,λ j l ks ls a I J U h4=>?_⟩;. obtain⟨C,h'⟩:=g j _ h;obtain⟨v,e,r⟩:=s.pu j d' h';exact⟨v,by rw[List.getElem?_take_of_lt C];exact e,r.mono m⟩
 .obtain⟨C,h'⟩:=g j _ h;obtain⟨a,vs,e,I,J,U⟩:=s.ow j b xs h';exact⟨a,vs,by rw[List.getElem?_take_of_lt C];exact e,I,J.mono m,U⟩
 .obtain⟨C,o⟩:=g j _ I;obtain⟨hl,aa⟩:=g l _ J;rw[List.getElem?_take_of_lt C]at U;rw[List.getElem?_take_of_lt hl]at h4;exact s.ne j l b b' xs ys a o aa U h4
 .obtain⟨C,h'⟩:=g j _ h;obtain⟨a,e,I⟩:=s.od j ks h';exact⟨a,by rw[List.getElem?_take_of_lt C];exact e,I⟩
 .obtain⟨C,o⟩:=g j _ I;obtain⟨hl,aa⟩:=g l _ J;rw[List.getElem?_take_of_lt C]at U;rw[List.getElem?_take_of_lt hl]at h4;exact s.nd j l ks ls a o aa U h4
end
noncomputable def M(α:Type):=DS->Option (α×DS)
noncomputable instance:Monad M where
 pure a:=fun s=>some (a,s)
 bind x f:=fun s=>match x s with
  | none=>none
  | some (a,s')=>f a s'
noncomputable def lift{α:Type}(o:Option α):M α:= λ s=>match o with
 |none=>none
 |some a=>some (a,s)
theorem M.bind_def(x:M α)(f:α->M β)(s:DS):(x >>= f) s=(match x s with|none=>none|some (a,s')=>f a s'):=rfl
theorem M.pure_def(a:α)(s:DS):(pure a:M α) s=some (a,s):=rfl
inductive KD {α β:Type} (x:M α) (f:α->M β) (s:DS) (b:β) (s2:DS):Prop
 | mk (a:α) (s1:DS) (e1:x s=some (a,s1)) (e2:f a s1=some (b,s2)):KD x f s b s2
theorem bind_some (h:(x >>= f) s=some (b,s2)):KD x f s b s2:= by
 rw [M.bind_def] at h
 cases e:x s with
 | none=>simp_all
 | some p=>obtain ⟨a,s1⟩:=p;rw [e] at h;exact ⟨a,s1,e,h⟩
theorem aV (h:(pure a:M α) s=some (b,s')):a=b∧s=s':= by
 rw [M.pure_def] at h;grind
theorem ba (h:lift o s=some (b,s')):o=some b∧s=s':= by
 unfold lift at h
 grind
theorem br:∀b o,BP p H b=some o->H b=some o:= λ b o h=>(dG.mp h).2
inductive tM (f:M D) (σ:St) (H:Hp) (Q:VK):Prop
 | mk (c:Ct) (δ:DS) (S:List D) (T:List V) (d:D) (δ':DS) (s:Sl c δ S σ T H) (e:f δ=some (d,δ')) (q:∀v H',Sl c δ' (d :: S) σ (v :: T) H' -> Q v H'):tM f σ H Q
inductive vR (f:M Bool) (σ:St) (H:Hp) (Q:Bool->Hp->Prop):Prop
 | mk (c:Ct) (δ:DS) (S:List D) (T:List V) (b:Bool) (δ':DS) (s:Sl c δ S σ T H) (e:f δ=some (b,δ')) (q:∀H',Sl c δ' S σ T H' -> Q b H'):vR f σ H Q
inductive JG (f:M (List D)) (σ:St) (H:Hp) (Q:List V->Hp->Prop):Prop
 | mk (c:Ct) (δ:DS) (S:List D) (T:List V) (ds:List D) (δ':DS) (s:Sl c δ S σ T H) (e:f δ=some (ds,δ')) (q:∀vs H',vs.length=ds.length->Sl c δ' (ds ++ S) σ (vs ++ T) H' -> Q vs H'):JG f σ H Q
inductive G5 (f:M (List D)) (σ:St) (H:Hp) (Q:VK):Prop
 | mk (c:Ct) (δ:DS) (S:List D) (T:List V) (xs:List D) (δ':DS) (s:Sl c δ S σ T H) (e:f δ=some (xs,δ')) (q:∀l vs H',vs.length=xs.length->Sl { c with Z:=upd c.Z l (.lst vs) } δ' (xs ++ S) σ (vs ++ T) H' -> c.Z l=none->l ∉ c.B->c.H0 l=none->Q (.ref l) H'):G5 f σ H Q
noncomputable abbrev DE(X:Cx)(e:Expr)(f:M D):Prop:=PE X e (tM f)
noncomputable abbrev DT(X:Cx)(e:Expr)(f:M Bool):Prop:=PT X e (vR f)
noncomputable abbrev DW(X:Cx)(e:Expr)(f:M Bool):Prop:=PW X e (vR f)
noncomputable abbrev DA(X:Cx)(es:List Expr)(f:M (List D)):Prop:=PA X es (JG f)
noncomputable abbrev DF(X:Cx)(e:Expr)(f:M (List D)):Prop:=PE X e (G5 f)
theorem cB(h:PE X e t)(w:∀σ H Q,t' σ H Q->t σ H Q):PE X e t':= λ pins s σ H Q I q=>h pins s σ H Q I (w σ H Q q)
theorem Cv(h:PT X e t)(w:∀σ H Q,t' σ H Q->t σ H Q):PT X e t':= λ pins s σ H Q I q=>h pins s σ H Q I (w σ H Q q)
theorem Jg(h:PW X e t)(w:∀σ H Q,t' σ H Q->t σ H Q):PW X e t':= λ wh pins s σ H Q I q=>h wh pins s σ H Q I (w σ H Q q)
theorem Bu(h:PA X e t)(w:∀σ H Q,t' σ H Q->t σ H Q):PA X e t':= λ ps pins s σ H Q I q=>h ps pins s σ H Q I (w σ H Q q)
section
variable {X:Cx} {a b e:Expr} {fa fb:M D} {pos:Pos}
noncomputable def ck(i:Nat):M D:= λ o=>match o[i]? with
 |some (.pu d)=>some (d,o)
 |_=>none
theorem i4 (h:ck i δ=some (d,δ')):δ[i]? = some (.pu d)∧δ=δ':= by
 unfold ck at h
 grind
theorem aR(i:Nat){x:Str}{pos:Pos}(C:X.N[i]?=some x:=by rfl)(I:oZ X.env.scope x:=by first | exact Or.inl rfl | exact Or.inr (Or.inl rfl) | exact Or.inr (Or.inr rfl))(hd:(x==("__debug__":Str))=false:=by decide)
  (o:(x==("__classdict__":Str))=false:=by decide):DE X (.Name x pos) (ck i):=cB (cY C I hd o) λ σ H Q ⟨c,δ,S,T,d,J,s,e,k⟩=>by obtain⟨U,rfl⟩:=i4 e;obtain⟨v,ev,r⟩:=s.pu i d U;exact⟨v,ev,k v H (s.stk (.cons r s.st))⟩
theorem H_(h:PE X e (tC v))(r:∀H,R H d v):DE X e (pure d):=cB h λ σ H Q ⟨c,C,S,T,d',o,s,e,k⟩=>by obtain⟨rfl,rfl⟩:=aV e;exact k v H (s.stk (.cons (r _) s.st))
theorem aW{j pos}:DE X (.Constant (.int i) j pos) (pure (.int i)):=H_ mL λ _=> .mkI
theorem f7{j pos}:DE X (.Constant (.bool i) j pos) (pure (.bl i)):=H_ Ec λ _=> .mkB
theorem dU{j pos}:DE X (.Constant (.str i) j pos) (pure (.str i)):=H_ mJ λ _=> .mkS
theorem nZ{j pos}:DE X (.Constant .none j pos) (pure .non):=H_ Gp λ _=> .mkN
theorem bg(h:DF X e f):DE X e (do let xs<- f;pure (.lst xs)):=cB h λ σ H Q ⟨c,C,S,T,d,I,s,e,k⟩=>by obtain⟨xs,o,J,U⟩:=bind_some e;obtain⟨rfl,rfl⟩:=aV U;exact⟨c,C,S,T,xs,o,s,J,λ l vs H' hl s' hz _ _=>k _ _ (s'.unhideL hl hz)⟩
noncomputable def qR(r:R2)(f:D->D->Option D):Prop:=∀(c:Ct)(o:DS)(S:List D)(σ:St)(T:List V)(H:Hp)(x y:D)(v u:V)(d:D)(Q:VK),Sl c o (y::x::S) σ (u::v::T) H->f x y=some d->(∀z H',Sl c o (d::S) σ (z::T) H'->Q z H')->r v u H Q
noncomputable def m2(f:D->D->Option D)(fa fb:M D):M D:=do
 let x<- fa
 let y<- fb
 lift (f x y)
theorem uJ(hd:qR r f):∀σ H Q,tM (m2 f fa fb) σ H Q->rN r (tM fa) (tM fb) σ H Q:= λ σ H Q ⟨c,I,S,T,d,J,s,e,k⟩=>by obtain⟨x,o,U,e⟩:=bind_some e;obtain⟨y,C,e2,e⟩:=bind_some e;obtain⟨e3,rfl⟩:=ba e;exact⟨c,I,S,T,x,o,s,U,λ v H1 s1=>⟨c,o,x::S,v::T,y,C,s1,e2,λ u H2 s2=>hd _ _ _ _ _ _ _ _ _ _ _ _ s2 e3 k⟩⟩
theorem mj(o:gW X (binaryOp op) r)(hd:qR r f)(C:DE X a fa)(I:DE X b fb):DE X (.BinOp a op b pos) (m2 f fa fb):=cB (oM o C I) (uJ hd)
theorem yc(o:gW X (compareOp op) r)(hd:qR r f)(C:DE X a fa)(I:DE X b fb)(hm:behindInMarks op b=false:=by first | exact se _ | rfl):DE X (.Compare a [op] [b] pos) (m2 f fa fb):=cB (Cn o C I hm) (uJ hd)
theorem D9(o:t7 X r)(hd:qR r f)(C:DE X a fa)(I:DE X b fb)(hs:iB b:=by exact fun _ _=>rfl):DE X (.Subscript a b pos) (m2 f fa fb):=cB (tu o C I hs) (uJ hd)
noncomputable def dE(C:Int->Int->Bool)(g:Int->Int->D):D->D->Option D
 | .int i,.int j=>if C i j=true then some (g i j)else none
 |_,_=>none
theorem gD(h:dE C g x y=some d):∃i j,x= .int i/\y= .int j/\C i j=true/\d=g i j:=by unfold dE at h;grind
theorem xP{o:Int->Int->Bool}{g:Int->Int->V}{g':Int->Int->D}(I:∀i j,o i j=true->C i j)(J:∀H i j,R H (g' i j) (g i j)):qR (rI C g) (dE o g'):= λ c δ S σ T H x y v u d Q s e k=>by obtain⟨i,j,rfl,rfl,U,rfl⟩:=gD e;have h1:=s.st.head.int;have h2:=s.st.tail.head.int;exact⟨i,j,h2,h1,I i j U,k _ _ (s.stk (.cons (J _ _ _) s.st.tail.tail))⟩
theorem mY{g':Int->Int->D}(o:∀H i j,R H (g' i j) (g i j)):qR (Ak g) (dE (λ _ _=>true) g'):= λ c J S σ T H x y v u d Q s e k=>by obtain⟨i,j,rfl,rfl,U,rfl⟩:=gD e;have C:=s.st.head.int;have I:=s.st.tail.head.int;exact⟨i,j,I,C,k _ _ (s.stk (.cons (o _ _ _) s.st.tail.tail))⟩
noncomputable def gP:=dE (λ _ _=>true) λ i j=> .int (i+j)
noncomputable def Iv:=dE (λ _ _=>true) λ i j=> .int (i-j)
noncomputable def ou:=dE (λ i j=>(decide (-(2^64)<i)&&decide (i<2^64))||(decide (-(2^64)<j)&&decide (j<2^64))) λ i j=> .int (i*j)
noncomputable def A8:=dE (λ _ j=>decide (0<j)) λ i j=> .int (i%j)
noncomputable def Gh:=dE (λ _ j=>decide (0<j)&&decide (j<1073741824)) λ i j=> .int (i/j)
noncomputable def Gk:=dE (λ _ _=>true) λ i j=> .bl (decide (i<j))
noncomputable def Kc:=dE (λ _ _=>true) λ i j=> .bl (decide (i<=j))
noncomputable def J0:=dE (λ _ _=>true) λ i j=> .bl (decide (j<i))
theorem cQ(o:DE X a fa)(C:DE X b fb):DE X (.BinOp a .Add b pos) (m2 gP fa fb):=mj Gn (mY λ _ _ _=> .mkI) o C
theorem GQ(o:DE X a fa)(C:DE X b fb):DE X (.BinOp a .Sub b pos) (m2 Iv fa fb):=mj Fv (mY λ _ _ _=> .mkI) o C
theorem iZ(o:DE X a fa)(C:DE X b fb):DE X (.BinOp a .Mult b pos) (m2 ou fa fb):=mj FK (xP (λ i j h=>by simp at h;exact h) λ _ _ _=> .mkI) o C
theorem km(o:DE X a fa)(C:DE X b fb):DE X (.BinOp a .Mod b pos) (m2 A8 fa fb):=mj GJ (xP (λ i j h=>of_decide_eq_true h) λ _ _ _=> .mkI) o C
theorem yA(o:DE X a fa)(C:DE X b fb):DE X (.BinOp a .FloorDiv b pos) (m2 Gh fa fb):=mj Dq (xP (λ i j h=>by simp at h;exact h) λ _ _ _=> .mkI) o C
noncomputable def jk:D->D->Option D
 | .tup ds,.int i=>jM ds i
 | .lst ds,.int i=>jM ds i
 |_,_=>none
theorem rM(h:Rs H ds vs)(e:jM ds i=some d):∃v,jM vs i=some v/\R H d v:=by unfold jM at*;rw[h.length];cases q:wu ds.length i with
 |none=>simp_all
 |some j=>rw[q]at e;exact h.get e
theorem xj:qR (IU K) jk:= λ c U S σ T H x y v u d Q s e k=>by cases x with
 |tup ds=>cases y with
  |int i=>have o:jM ds i=some d:=e;obtain⟨p,vs,rfl,C,I⟩:=s.st.tail.head.tup;obtain⟨z,J,r⟩:=rM I o;exact .inr (.inl ⟨p,vs,i,z,rfl,s.st.head.int,.of (br _ _ C),J,k _ _ (s.stk (.cons r s.st.tail.tail))⟩)
  |_=>cases e
 |lst ds=>cases y with
  |int i=>have o:jM ds i=some d:=e;obtain⟨p,vs,rfl,C,I⟩:=s.st.tail.head.lst;obtain⟨z,J,r⟩:=rM I o;exact .inl ⟨p,vs,i,z,rfl,s.st.head.int,.inl (Rd.mono br C),J,k _ _ (s.stk (.cons r s.st.tail.tail))⟩
  |_=>cases e
 |_=>cases e
theorem bc(o:DE X a fa)(C:DE X b fb)(hs:iB b:=by exact fun _ _=>rfl):DE X (.Subscript a b pos) (m2 jk fa fb):=D9 n_ xj o C hs
noncomputable def lB:D->M Bool
 | .bl b=>pure b
 |_=>lift none
theorem k_{b:Bool}{C o:DS}(h:lB d C=some (b,o)):d= .bl b/\C=o:=by
 unfold lB at h;split at h;. obtain⟨rfl,rfl⟩:=aV h;simp
 .cases h
theorem gk(C:gW X (compareOp op) r)(hd:qR r f)(I:DE X a fa)(J:DE X b fb)(hm:behindInMarks op b=false:=by first | exact se _ | rfl):DT X (.Compare a [op] [b] pos) (m2 f fa fb >>= lB):=
 Cv (mM C I J hm) λ σ H Q ⟨c,U,S,T,d,aa,s,e,k⟩=>by obtain⟨x,o,e1,e⟩:=bind_some e;obtain⟨rfl,rfl⟩:=k_ e;exact uJ hd σ H _ ⟨c,U,S,T,.bl d,o,s,e1,λ v H' s'=>⟨d,s'.st.head.bl,k _ s'.pop⟩⟩
theorem yG (ha:DE X a fa) (hb:DE X b fb):DT X (.Compare a [.Lt] [b] pos) (m2 Gk fa fb >>= lB):=gk D1 (mY fun _ _ _=>.mkB) ha hb
theorem mG (ha:DE X a fa) (hb:DE X b fb):DT X (.Compare a [.Gt] [b] pos) (m2 J0 fa fb >>= lB):=gk Hj (mY fun _ _ _=>.mkB) ha hb
noncomputable def jc:D->Option Bool
 | .non=>some false
 | .bl b=>some b
 | .int i=>some (i !=0)
 | .str y=>if y.length<=16777216 then some ((y.length:Int)!=0)else none
 | .tup ds=>some (!ds.isEmpty)
 | .lst ds=>some (!ds.isEmpty)
 | .dct=>none
 | .dic _=>none
 | .dip _=>none
theorem kS(h:Rs H ds vs):(!ds.isEmpty)= !vs.isEmpty:=by cases ds with
 |nil=>rw[h.inv0];rfl
 |cons d ds=>obtain⟨v,r,e,_⟩:=h.inv;grind
theorem uG{J H:Hp}{d:D}{v:V}{b:Bool}(m:∀b o,J b=some o->H b=some o)(r:R J d v)(e:jc d=some b):AF K v H b:=by cases d with
 |non=>cases r.non;cases e;rfl
 |bl x=>cases r.bl;cases e;rfl
 |int i=>cases r.int;cases e;rfl
 |str x=>cases r.str;have e:(if x.length<=16777216 then some ((x.length:Int)!=0)else none)=some b:=e;split at e;(cases e;exact⟨by rw[PySem.sizeLine_eq];assumption,rfl⟩);cases e
 |dct=>cases e
 |dic _=>cases e
 |dip _=>cases e
 |tup ds=>obtain⟨p,vs,rfl,C,I⟩:=r.tup;cases e;exact .inr (.inl ⟨vs,.of (m _ _ C),kS I⟩)
 |lst ds=>obtain⟨p,vs,rfl,C,I⟩:=r.lst;cases e;exact .inl ⟨vs,.inl (Rd.mono m C),kS I⟩
theorem cU(C:DE X a fa)(he:∀whole,isTrue a X.env whole=(do let v<- whole;standAt a.pos;holding [v] (truthy v)):=by intro _;rfl):DT X a (do let x<- fa;lift (jc x)):=
 Cv (qp C he) λ σ H Q ⟨c,I,S,T,d,J,s,e,k⟩=>by obtain⟨x,o,U,e⟩:=bind_some e;obtain⟨e2,rfl⟩:=ba e;exact⟨c,I,S,T,x,o,s,U,λ v H' s'=>⟨d,uG br s'.st.head e2,k _ s'.pop⟩⟩
noncomputable def rX(fa fb:M Bool):M Bool:=do
 let x<- fa
 if x=true then fb else pure false
noncomputable def Ht(fa fb:M Bool):M Bool:=do
 let x<- fa
 if x=true then pure true else fb
noncomputable def AK(fa:M Bool):M Bool:=do
 let x<- fa
 pure (!x)
variable {ta tb:M Bool} {rest:List Expr}
theorem h9(o:DT X a ta):DW X (.BoolOp .And [a] pos) ta:=DR o
theorem nr(o:DT X a ta):DW X (.BoolOp .Or [a] pos) ta:=yD o
theorem jb(I:DT X a ta)(J:DW X (.BoolOp .And (b::rest) pos) tb):DW X (.BoolOp .And (a::b::rest) pos) (rX ta tb):=Jg (FW I J) λ σ H Q ⟨c,U,S,T,d,C,s,e,k⟩=>by obtain⟨x,o,e1,e⟩:=bind_some e;refine⟨c,U,S,T,x,o,s,e1,λ H' s'=>?_⟩;cases x with
 |true=>exact⟨c,o,S,T,d,C,s',e,k⟩
 |false=>obtain⟨rfl,rfl⟩:=aV e;simp_all
theorem tD(I:DT X a ta)(J:DW X (.BoolOp .Or (b::rest) pos) tb):DW X (.BoolOp .Or (a::b::rest) pos) (Ht ta tb):=Jg (Eb I J) λ σ H Q ⟨c,U,S,T,d,C,s,e,k⟩=>by obtain⟨x,o,e1,e⟩:=bind_some e;refine⟨c,U,S,T,x,o,s,e1,λ H' s'=>?_⟩;cases x with
 |false=>exact⟨c,o,S,T,d,C,s',e,k⟩
 |true=>obtain⟨rfl,rfl⟩:=aV e;simp_all
theorem nD(h:DW X a ta):DT X a ta:=h.pt
theorem fm(C:DT X a ta):DT X (.UnaryOp .Not a pos) (AK ta):=Cv (wQ C) λ σ H Q ⟨c,I,S,T,d,J,s,e,k⟩=>by obtain⟨x,o,U,e⟩:=bind_some e;obtain⟨rfl,rfl⟩:=aV e;exact⟨c,I,S,T,x,o,s,U,λ H' s'=>k _ s'⟩
noncomputable def w6(fa fb:M D):M D:=do
 let x<- fa
 match x with
 | .bl true=>fb
 | .bl false=>pure (.bl false)
 |_=>lift none
noncomputable def Fb(fa:M D):M D:=do
 let x<- fa
 match x with
 | .bl b=>pure (.bl (!b))
 |_=>lift none
theorem fH(h:DE X a fa):DE X (.BoolOp op [a] pos) fa:=E_ h
theorem fL(I:DE X a fa)(J:DE X (.BoolOp .And (b::rest) pos) fb):DE X (.BoolOp .And (a::b::rest) pos) (w6 fa fb):=cB (Fq I J) λ σ H Q ⟨c,U,S,T,d,C,s,e,k⟩=>by obtain⟨x,o,e1,e⟩:=bind_some e;refine⟨c,U,S,T,x,o,s,e1,λ v H' s'=>?_⟩;cases x with
 |bl q=>cases q with
  |true=>exact⟨true,s'.st.head.bl,JV ⟨c,o,S,T,d,C,s'.pop,e,k⟩⟩
  |false=>obtain⟨rfl,rfl⟩:=aV e;exact⟨false,s'.st.head.bl,JQ (k _ _ (s'.stk (.cons .mkB s'.st.tail)))⟩
 |_=>cases e
theorem yf(C:DE X a fa):DE X (.UnaryOp .Not a pos) (Fb fa):=cB (Gm C) λ σ H Q ⟨c,I,S,T,d,J,s,e,k⟩=>by obtain⟨x,o,U,e⟩:=bind_some e;refine⟨c,I,S,T,x,o,s,U,λ v H' s'=>?_⟩;cases x with
 |bl q=>obtain⟨rfl,rfl⟩:=aV e;exact⟨q,s'.st.head.bl,k _ _ (s'.stk (.cons .mkB s'.st.tail))⟩
 |_=>cases e
noncomputable def uQ{α:Type}(t:M Bool)(fa fb:M α):M α:=do
 let x<- t
 if x=true then fa else fb
theorem D2(I:DT X t ta)(J:DE X a fa)(U:DE X b fb):DE X (.IfExp t a b pos) (uQ ta fa fb):=cB (yS I J U) λ σ H Q ⟨c,δ,S,T,d,C,s,e,k⟩=>by obtain⟨x,o,e1,e⟩:=bind_some e;refine⟨c,δ,S,T,x,o,s,e1,λ H' s'=>?_⟩;cases x with
 |true=>exact⟨c,o,S,T,d,C,s',e,k⟩
 |false=>exact⟨c,o,S,T,d,C,s',e,k⟩
variable {es:List Expr} {fs:M (List D)}
theorem aU:DA X [] (pure []):=Bu cb λ σ H Q ⟨c,C,S,T,d,o,s,e,k⟩=>by obtain⟨rfl,rfl⟩:=aV e;exact k [] H rfl s
noncomputable def bw(fa:M D)(fs:M (List D)):M (List D):=do
 let x<- fa
 let xs<- fs
 pure (x::xs)
theorem aQ(J:DE X a fa)(U:DA X es fs)(hs:starEach (a::es) X.env=(false,eval a X.env)::starEach es X.env:=by rfl):DA X (a::es) (bw fa fs):=Bu (bh J U hs) λ σ H Q ⟨c,δ,S,T,d,aa,s,e,k⟩=>by obtain⟨x,o,e1,e⟩:=bind_some e;obtain⟨xs,C,e2,e⟩:=bind_some e;obtain⟨rfl,rfl⟩:=aV e;refine⟨c,δ,S,T,x,o,s,e1,λ v H1 s1=>⟨c,o,x::S,v::T,xs,C,s1,e2,λ vs H2 l s2=>k (v::vs) H2 (by grind) (s2.stk ?_)⟩⟩;have h1:=s2.st.left l;have I:=s2.st.right l;exact .cons I.head (h1.append I.tail)
noncomputable def few(n:Nat):Option Unit:=if n<=100000 then some ()else none
theorem fV(h:few n=some u):n<=sizeLine/\n<sizeLine:=by
 unfold few at h;split at h
 .have:100000<sizeLine:=by decide
  omega
 grind
noncomputable def iy(fs:M (List D)):M D:=do
 let ds<- fs
 let _<- lift (few ds.length)
 pure (.tup ds)
noncomputable def qo(fs:M (List D)):M (List D):=do
 let ds<- fs
 let _<- lift (few ds.length)
 pure ds
theorem bG(h:DA X es fs):DE X (.Tuple es x1 pos) (iy fs):=cB (Fy h) λ σ H Q ⟨c,C,S,T,d,I,s,e,k⟩=>by obtain⟨ds,o,J,e⟩:=bind_some e;obtain⟨_,U,e2,e⟩:=bind_some e;obtain⟨e3,rfl⟩:=ba e2;obtain⟨rfl,rfl⟩:=aV e;exact⟨c,C,S,T,ds,o,s,J,λ vs H1 l s1=>⟨by rw[l];exact(fV e3).1,λ p hp=>k _ _ (s1.newTup l hp)⟩⟩
theorem cy(h:DA X es fs):DF X (.List es pos) (qo fs):=cB (iW h) λ σ H Q ⟨c,I,S,T,d,J,s,e,k⟩=>by obtain⟨ds,o,U,e⟩:=bind_some e;obtain⟨_,aa,e2,e⟩:=bind_some e;obtain⟨e3,rfl⟩:=ba e2;obtain⟨rfl,rfl⟩:=aV e;refine⟨c,I,S,T,ds,o,s,U,λ vs H1 l s1=>⟨by rw[l];exact(fV e3).1,λ p C=>?_⟩⟩;obtain⟨f1,f2,f3⟩:=s1.fresh C;exact k p vs _ l (s1.hide C) f1 f2 f3
noncomputable def ju(r:List V->Hp->VK->Prop)(f:List D->Option D):Prop:=∀(c:Ct)(o:DS)(S:List D)(σ:St)(T:List V)(H:Hp)(ds:List D)(vs:List V)(d:D)(Q:VK),vs.length=ds.length->Sl c o (ds++S) σ (vs++T) H->f ds=some d->(∀z H',Sl c o (d::S) σ (z::T) H'->Q z H')->r vs H Q
noncomputable def yn(r:List V->Hp->VK->Prop)(f:List D->Option (List D)):Prop:=∀(c:Ct)(o:DS)(S:List D)(σ:St)(T:List V)(H:Hp)(ds:List D)(vs:List V)(xs:List D)(Q:VK),vs.length=ds.length->Sl c o (ds++S) σ (vs++T) H->f ds=some xs->
 (∀l ws H',ws.length=xs.length->Sl { c with Z:=upd c.Z l (.lst ws) } o (xs++S) σ (ws++T) H'->c.Z l=none->l∉c.B->c.H0 l=none->Q (.ref l) H')->r vs H Q
noncomputable def mC{α:Type}(f:List D->Option α)(fs:M (List D)):M α:=do
 let ds<- fs
 lift (f ds)
variable {x:Str} {p:Pos} {id T:String} {r:List V->Hp->VK->Prop} {f:List D->Option D} {g:List D->Option (List D)}
theorem D7(hd:ju r f):∀σ H Q,tM (mC f fs) σ H Q->wA r (JG fs) σ H Q:= λ σ H Q ⟨c,C,S,T,d,I,s,e,k⟩=>by obtain⟨ds,o,J,e⟩:=bind_some e;obtain⟨U,rfl⟩:=ba e;exact⟨c,C,S,T,ds,o,s,J,λ vs H1 l s1=>hd _ _ _ _ _ _ _ _ _ _ l s1 U k⟩
theorem EK(hd:yn r g):∀σ H Q,G5 (mC g fs) σ H Q->wA r (JG fs) σ H Q:= λ σ H Q ⟨c,C,S,T,d,I,s,e,k⟩=>by obtain⟨ds,o,J,e⟩:=bind_some e;obtain⟨U,rfl⟩:=ba e;exact⟨c,C,S,T,ds,o,s,J,λ vs H1 l s1=>hd _ _ _ _ _ _ _ _ _ _ l s1 U k⟩
noncomputable def fk:List D->Option D
 |[.tup ds]=>some (.int ds.length)
 |[.lst ds]=>some (.int ds.length)
 |_=>none
theorem wy(h:Rs H [d] vs):∃v,vs=[v]/\R H d v:=by obtain⟨v,r,e,C,o⟩:=h.inv;rw[o.inv0]at e;grind
theorem Jj(h:Rs H [d,d'] vs):∃v u,vs=[v,u]/\R H d v/\R H d' u:=by obtain⟨v,r,e,C,o⟩:=h.inv;obtain⟨u,rfl,I⟩:=wy o;grind
theorem F7:ju (λ xs H Q=>∃p ys,xs=[.ref p]/\(fG K H p ys\/gx K H p ys)/\Q (.int ys.length) H) fk:= λ c J S σ T H ds vs d Q l s e k=>by
 have h:=s.st.left l;have I:=s.st.right l;unfold fk at e;split at e;. obtain⟨v,rfl,r⟩:=wy h;obtain⟨p,ws,rfl,o,C⟩:=r.tup;cases e;exact⟨p,ws,rfl,.inr (.of (br _ _ o)),k _ _ (s.stk (.cons (by rw[C.length];exact .mkI) I))⟩
 .obtain⟨v,rfl,r⟩:=wy h;obtain⟨p,ws,rfl,o,C⟩:=r.lst;cases e;exact⟨p,ws,rfl,.inl (.inl (Rd.mono br o)),k _ _ (s.stk (.cons (by rw[C.length];exact .mkI) I))⟩
 grind
theorem hX(I:cT X (.builtin id) r)(hd:ju r f)(J:Gl X x)(hm:X.mg x=none)(U:bootBuiltins x=some (.builtin id))(ha:DA X (a::es) fs)(hn:x≠"__name__":=by decide)(o:(x==("__debug__":Str))=false:=by decide)
  (he:starEach (a::es) X.env=(false,eval a X.env)::starEach es X.env:=by rfl)(C:(backTo pos (starEach es X.env)).any (·.1)=false:=by rfl):DE X (.Call (.Name x p) (a::es) [] pos) (mC f fs):=
 cB (dr I J hm U ha hn o he C) (D7 hd)
end
inductive Fl where
 | nx | bk | ct | rt (d:D) | rf (xs:List D)
noncomputable def Fin(c:Ct)(o:DS)(S:List D)(T:List V)(C:Fl)(E:Ends):Prop:=
 match C with
 | .nx=>∀σ H,Sl c o S σ T H->E.nx σ H
 | .bk=>∀σ H,Sl c o S σ T H->E.bk σ H
 | .ct=>∀σ H,Sl c o S σ T H->E.ct σ H
 | .rt d=>∀v σ H,Sl c o (d::S) σ (v::T) H->E.rt v H
 | .rf xs=>∀l vs σ H,vs.length=xs.length->Sl { c with Z:=upd c.Z l (.lst vs) } o (xs++S) σ (vs++T) H->c.Z l=none->l∉c.B->c.H0 l=none->E.rt (.ref l) H
inductive Ic (f:M Fl) (E:Ends) (σ:St) (H:Hp):Prop
 | mk (c:Ct) (δ:DS) (S:List D) (T:List V) (fl:Fl) (δ':DS) (s:Sl c δ S σ T H) (e:f δ=some (fl,δ')) (q:Fin c δ' S T fl E):Ic f E σ H
noncomputable abbrev lQ(X:Cx)(st:Stmt)(f:M Fl):Prop:=PS X st (Ic f)
noncomputable abbrev mI(X:Cx)(st:List Stmt)(f:M Fl):Prop:=kE X st (Ic f)
theorem iq(h:PS X e t)(w:∀E σ H,t' E σ H->t E σ H):PS X e t':= λ pins s σ H Q I q=>h pins s σ H Q I (w Q σ H q)
theorem Ek(h:kE X e t)(w:∀E σ H,t' E σ H->t E σ H):kE X e t':= λ pins s σ H Q I q=>h pins s σ H Q I (w Q σ H q)
section
variable {X:Cx} {a b e:Expr} {fa:M D} {fF:M (List D)} {pos:Pos} {st:Stmt} {rest:List Stmt} {f g:M Fl} {tt:M Bool}
theorem cf:mI X [] (pure .nx):=Ek ur λ E σ H ⟨c,C,S,T,I,o,s,e,k⟩=>by obtain⟨rfl,rfl⟩:=aV e;exact k σ H s
noncomputable def d6(f g:M Fl):M Fl:=do
 let o<- f
 match o with
 | .nx=>g
 |o=>pure o
theorem aY(J:lQ X st f)(U:mI X rest g):mI X (st::rest) (d6 f g):=Ek (e_ J U) λ E σ H ⟨c,δ,S,T,fl,I,s,e,k⟩=>by obtain⟨o,C,e1,e⟩:=bind_some e;refine⟨c,δ,S,T,o,C,s,e1,?_⟩;cases o with
 |nx=>exact λ aa H' s'=>⟨c,C,S,T,fl,I,s',e,k⟩
 |bk=>obtain⟨rfl,rfl⟩:=aV e;exact k
 |ct=>obtain⟨rfl,rfl⟩:=aV e;exact k
 |rt d=>obtain⟨rfl,rfl⟩:=aV e;exact k
 |rf xs=>obtain⟨rfl,rfl⟩:=aV e;exact k
theorem a_(o:lQ X st f):mI X [st] f:=jH o
theorem bz(he:DE X e fa):lQ X (.Return (some e) pos) (do let d<- fa;pure (.rt d)):=iq (jX he) λ E σ H ⟨c,C,S,T,U,I,s,e,k⟩=>by obtain⟨d,o,J,e⟩:=bind_some e;obtain⟨rfl,rfl⟩:=aV e;exact⟨c,C,S,T,d,o,s,J,λ v H' s'=>k v σ H' s'⟩
theorem jL(he:DF X e fF):lQ X (.Return (some e) pos) (do let d<- fF;pure (.rf d)):=iq (jX he) λ E σ H ⟨c,C,S,T,fl,I,s,e,k⟩=>by obtain⟨d,o,J,e⟩:=bind_some e;obtain⟨rfl,rfl⟩:=aV e;exact⟨c,C,S,T,d,o,s,J,λ l vs H' U h2 h3 h4 h5=>k l vs σ H' U h2 h3 h4 h5⟩
noncomputable def mm(i:Nat):M (List D):= λ o=>match o[i]? with
 |some (.ow false xs)=>some (xs,o.set i .un)
 |_=>none
theorem ET(i:Nat){x:Str}{pos:Pos}(J:X.N[i]?=some x:=by rfl)(U:oZ X.env.scope x:=by first | exact Or.inl rfl | exact Or.inr (Or.inl rfl) | exact Or.inr (Or.inr rfl))(hd:(x==("__debug__":Str))=false:=by decide)
  (o:(x==("__classdict__":Str))=false:=by decide):DF X (.Name x pos) (mm i):=cB (cY J U hd o) λ σ H Q ⟨c,δ,S,T,xs,aa,s,e,k⟩=>by
 unfold mm at e;split at e;. rename_i ys C;cases e;obtain⟨a,ab,I,_⟩:=s.ow i _ _ C;obtain⟨vs,h1,h2,h3,h4,h5⟩:=s.giveOw C I;exact⟨_,I,k a vs H h1 h2 h3 h4 h5⟩
 grind
theorem dN(J:DT X t tt)(U:mI X as f)(hb:mI X bs g):lQ X (.If t as bs pos) (uQ tt f g):=iq (Ep J U hb) λ E σ H ⟨c,δ,S,T,I,C,s,e,k⟩=>by obtain⟨x,o,e1,e⟩:=bind_some e;refine⟨c,δ,S,T,x,o,s,e1,λ H' s'=>?_⟩;cases x with
 |true=>exact⟨c,o,S,T,I,C,s',e,k⟩
 |false=>exact⟨c,o,S,T,I,C,s',e,k⟩
theorem uH(he:DE X e fa)(hs:swapsWith e none pos.line X.env=pure false:=by rfl):lQ X (.Expr e pos) (do let _<- fa;pure .nx):=iq (tB he hs) λ E σ H ⟨c,C,S,T,U,I,s,e,k⟩=>by obtain⟨x,o,J,e⟩:=bind_some e;obtain⟨rfl,rfl⟩:=aV e;exact⟨c,C,S,T,x,o,s,J,λ v H' s'=>k _ _ s'.pop⟩
noncomputable def hV(i:Nat)(d:D):M Unit:= λ o=>if i<o.length then some ((),o.set i (.pu d))else none
noncomputable def yz(i:Nat)(xs:List D):M Unit:= λ o=>if i<o.length then some ((),o.set i (.ow false xs))else none
theorem ff{u:Unit}(h:hV i d C=some (u,o)):i<C.length/\o=C.set i (.pu d):=by unfold hV at h;grind
theorem ml{u:Unit}(h:yz i d C=some (u,o)):i<C.length/\o=C.set i (.ow false d):=by unfold yz at h;grind
noncomputable def td(i:Nat)(fa:M D):M Fl:=do
 let d<- fa
 hV i d
 pure .nx
noncomputable def G6(i:Nat)(fF:M (List D)):M Fl:=do
 let d<- fF
 yz i d
 pure .nx
theorem IX(w:∀σ H Q,tM fa σ H Q->te σ H Q):∀E σ H,Ic (td i fa) E σ H->lP te (eD i) E σ H:= λ E σ H ⟨c,C,S,T,fl,I,s,e,k⟩=>by obtain⟨d,o,J,e⟩:=bind_some e;obtain⟨u,U,e2,e⟩:=bind_some e;obtain⟨rfl,rfl⟩:=aV e;obtain⟨hi,rfl⟩:=ff e2;exact w _ _ _ ⟨c,C,S,T,d,o,s,J,λ v H' s'=>k _ _ (s'.setPu hi)⟩
theorem J6(w:∀σ H Q,G5 fF σ H Q->te σ H Q):∀E σ H,Ic (G6 i fF) E σ H->lP te (eD i) E σ H:= λ E σ H ⟨c,C,S,T,fl,I,s,e,k⟩=>by obtain⟨d,o,J,e⟩:=bind_some e;obtain⟨u,U,e2,e⟩:=bind_some e;obtain⟨rfl,rfl⟩:=aV e;obtain⟨hi,rfl⟩:=ml e2;exact w _ _ _ ⟨c,C,S,T,d,o,s,J,λ l vs H' h1 h2 h3 h4 h5=>k _ _ (h2.setOw h1 h3 h4 h5 hi)⟩
theorem bC(i:Nat){x:Str}{pos':Pos}(o:X.N.Nodup)(he:DE X e fa)(C:X.N[i]?=some x:=by rfl)(hx:Loc X.env.scope x:=by first | exact Or.inl rfl | exact Or.inr rfl)(hs:swapsWith e (some (.Name x pos')) pos.line X.env=pure false:=by rfl)
  (hf:X.fn x=true\/X.env.scope.names.lookup x=some .local:=by first | exact .inl rfl | exact .inr rfl | assumption):lQ X (.Assign [.Name x pos'] e pos) (td i fa):=iq (jf o C hx he hs hf) (IX λ _ _ _ h=>h)
theorem gz(i:Nat){x:Str}{pos':Pos}(o:X.N.Nodup)(he:DF X e fF)(C:X.N[i]?=some x:=by rfl)(hx:Loc X.env.scope x:=by first | exact Or.inl rfl | exact Or.inr rfl)(hs:swapsWith e (some (.Name x pos')) pos.line X.env=pure false:=by rfl)
  (hf:X.fn x=true\/X.env.scope.names.lookup x=some .local:=by first | exact .inl rfl | exact .inr rfl | assumption):lQ X (.Assign [.Name x pos'] e pos) (G6 i fF):=iq (jf o C hx he hs hf) (J6 λ _ _ _ h=>h)
inductive Jq (lo:Nat) (f:D->M Unit) (v:V) (σ:St) (H:Hp) (Q:St->Hp->Prop):Prop
 | mk (c:Ct) (δ:DS) (S:List D) (T:List V) (d:D) (δ':DS) (s:Sl c δ (d :: S) σ (v :: T) H) (e:f d δ=some ((),δ')) (q:∀σ' H',(∀n,n ≤ lo->σ'.take n=σ.take n)->Sl c δ' S σ' T H' -> Q σ' H'):Jq lo f v σ H Q
inductive HK (lo:Nat) (f:List D->M Unit) (vs:List V) (σ:St) (H:Hp) (Q:St->Hp->Prop):Prop
 | mk (c:Ct) (δ:DS) (S:List D) (T:List V) (ds:List D) (δ':DS) (l:vs.length=ds.length) (s:Sl c δ (ds ++ S) σ (vs ++ T) H) (e:f ds δ=some ((),δ')) (q:∀σ' H',(∀n,n ≤ lo->σ'.take n=σ.take n)->Sl c δ' S σ' T H' -> Q σ' H'):HK lo f vs σ H Q
noncomputable abbrev DG(X:Cx)(lo:Nat)(tg:Expr)(f:D->M Unit):Prop:=PG X tg (Jq lo f)
noncomputable abbrev Jv(X:Cx)(lo:Nat)(tg:List Expr)(f:List D->M Unit):Prop:=Fm X tg (HK lo f)
theorem Iq(h:PG X e t)(w:∀v σ H Q,t' v σ H Q->t v σ H Q):PG X e t':= λ pins s σ H v u Q I r q=>h pins s σ H v u Q I r (w v σ H Q q)
theorem Ed{e:List Expr}{t t':Ef}(h:Fm X e t)(w:∀v σ H Q,t' v σ H Q->t v σ H Q):Fm X e t':= λ pins s σ H v u Q I r q=>h pins s σ H v u Q I r (w v σ H Q q)
theorem bO(i:Nat){x:Str}{pos:Pos}(I:X.N.Nodup)(o:lo<=i:=by decide)(C:X.N[i]?=some x:=by rfl)(hx:Loc X.env.scope x:=by first | exact Or.inl rfl | exact Or.inr rfl)
  (hf:X.fn x=true\/X.env.scope.names.lookup x=some .local:=by first | exact .inl rfl | exact .inr rfl | assumption):DG X lo (.Name x pos) (hV i):=Iq (tw I C hx hf) λ v σ H Q ⟨c,δ,S,T,d,J,s,e,k⟩=>by obtain⟨C,rfl⟩:=ff e;exact k _ _ (λ n U=>List.take_set_of_le (Nat.le_trans U o)) (s.setPu C)
noncomputable def pk:List D->M Unit
 |[]=>pure ()
 |_=>lift none
noncomputable def iU(f:D->M Unit)(g:List D->M Unit):List D->M Unit
 |d::ds=>do
  f d
  g ds
 |_=>lift none
theorem gq:Jv X lo [] pk:=Ed BR λ v σ H Q ⟨c,C,S,T,ds,o,l,s,e,k⟩=>by cases ds with
 |nil=>obtain⟨_,rfl⟩:=aV e;have:v=[]:=List.eq_nil_of_length_eq_zero l;subst this;exact⟨rfl,k σ H (λ _ _=>rfl) s⟩
 |cons d ds=>cases e
theorem cF{e:Expr}{es:List Expr}{f:D->M Unit}{g:List D->M Unit}(U:DG X lo e f)(h2:Jv X lo es g)
  (hs:(assignEach (e::es) X.env).map (·.2)=assign e X.env::(assignEach es X.env).map (·.2):=by rfl):Jv X lo (e::es) (iU f g):=Ed (y3 U h2 hs) λ vs σ H Q ⟨c,δ,S,T,ds,C,l,s,e,k⟩=>by cases ds with
 |nil=>cases e
 |cons d ds=>cases vs with
  |nil=>cases l
  |cons v vs=>obtain⟨u,o,e1,e2⟩:=bind_some e;exact⟨v,vs,rfl,c,δ,ds++S,vs++T,d,o,s,e1,λ aa H1 t1 s1=>⟨c,o,S,T,ds,C,by grind,s1,e2,λ I H2 t2 s2=>k I H2 (λ n J=>(t2 n J).trans (t1 n J)) s2⟩⟩
noncomputable def p8(n:Nat)(g:List D->M Unit):D->M Unit
 | .tup ds=>if ds.length=n then g ds else lift none
 |_=>lift none
theorem iR{k:Nat}{g:List D->M Unit}{n:Nat}(h:Jv X lo es g)(hc:X.calm=true:=by rfl)
  (hn:(assignEach es X.env).length=n:=by rfl)(C:(assignEach es X.env).findIdx? (·.1)=none:=by rfl):DG X lo (.Tuple es k pos) (p8 n g):=Iq (Fp hc h hn C) λ v σ H Q ⟨c,U,S,T,d,o,s,e,k⟩=>by cases d with
 |tup ds=>
  have I:(if ds.length=n then g ds else lift none) U=some ((),o):=e;split at I;. obtain⟨p,vs,rfl,h1,J⟩:=s.st.head.tup;exact⟨p,vs,rfl,.of (br _ _ h1),by rw[J.length];omega,c,U,S,T,ds,o,J.length,s.stk (J.append s.st.tail),I,k⟩
  .cases I
 |_=>cases e
theorem zI{g:D->M Unit}(he:DE X e fa)(I:DG X 0 tg g)(hs:swapsWithSole [tg] e pos.line X.env=pure false:=by rfl)(hw:swappedStores [tg] e X.env=pure none:=by rfl)
  (J:(assignEach [tg] X.env).map (·.2)=[assign tg X.env]:=by rfl):lQ X (.Assign [tg] e pos) (do let d<- fa;g d;pure .nx):=iq (xG he I hs hw J) λ E σ H ⟨c,U,S,T,fl,aa,s,e,k⟩=>by obtain⟨d,o,e1,e⟩:=bind_some e;obtain⟨u,C,e2,e⟩:=bind_some e;obtain⟨rfl,rfl⟩:=aV e;exact⟨c,U,S,T,d,o,s,e1,λ v H' s'=>⟨c,o,S,T,d,C,s',e2,λ ab H2 _ s2=>k _ _ s2⟩⟩
noncomputable abbrev jB:=List (DS->Option D)×(DS->Bool)
noncomputable def Hg(J:It)(its:jB)(C:List D)(I:List V):Prop:=∀(c:Ct)(o:DS)(S:List D)(σ:St)(T:List V)(H:Hp)(i:Nat),Sl c o (C++S) σ (I++T) H->
 (∀act d,its.1[i]?=some act->act o=some d->J.go i H/\∀x H',J.yld i H x H'->Sl c o (d::(C++S)) σ (x::(I++T)) H')/\(i=its.1.length->its.2 o=true->J.stop i H)
inductive Kz (f:M jB) (σ:St) (H:Hp) (R:It->Hp->Prop):Prop
 | mk (c:Ct) (δ:DS) (S:List D) (T:List V) (it:jB) (δ':DS) (s:Sl c δ S σ T H) (e:f δ=some (it,δ')) (q:∀J Sx Tx H',Tx.length=Sx.length->Hg J it Sx Tx->Sl c δ' (Sx ++ S) σ (Tx ++ T) H' -> R J H'):Kz f σ H R
noncomputable abbrev DI(X:Cx)(tg iter:Expr)(f:M jB):Prop:=PI X tg iter (Kz f)
theorem uU{tg e:Expr}{t t':TI}(h:PI X tg e t)(w:∀σ H Q,t' σ H Q->t σ H Q):PI X tg e t':= λ pins s σ H Q I q=>h pins s σ H Q I (w σ H Q q)
noncomputable def bF(ds:List D):jB:=(ds.map λ d _=>some d,λ _=>true)
theorem eZ{i:Nat}{act:DS->Option D}{o:DS}{d:D}(h:(bF ds).1[i]?=some act)(e:act o=some d):ds[i]?=some d:=by unfold bF at h;grind
theorem CP{X:Cx}(hK:X.K=K){a:Addr}{ds:List D}:Hg (Kh K a) (bF ds) [.tup ds] [.ref a]:= λ c δ S σ T H i s=>by obtain⟨p,vs,e,J,C⟩:=s.st.head.tup;cases e;have o:gx K H a vs:= .of (br _ _ J);refine⟨λ act d U hd=>?_,λ e _=>⟨vs,o,by rw[C.length,e];simp[bF]⟩⟩;obtain⟨v,I,r⟩:=C.get (eZ U hd);refine⟨⟨vs,v,o,I⟩,λ x H' y=>?_⟩;obtain⟨rfl,y⟩:=y;have:=y vs o;rw[I]at this;cases this;exact s.stk (.cons r s.st)
theorem B2{a:Addr}{ds:List D}:Hg (IA K a) (bF ds) [.lst ds] [.ref a]:= λ c δ S σ T H i s=>by obtain⟨p,vs,e,J,C⟩:=s.st.head.lst;cases e;have o:fG K H a vs:= .inl (Rd.mono br J);refine⟨λ act d U hd=>?_,λ e _=>⟨vs,o,by rw[C.length,e];simp[bF]⟩⟩;obtain⟨v,I,r⟩:=C.get (eZ U hd);refine⟨⟨vs,v,o,I⟩,λ x H' y=>?_⟩;obtain⟨rfl,y⟩:=y;have:=y vs o;rw[I]at this;cases this;exact s.stk (.cons r s.st)
noncomputable def d9:D->Option jB
 | .tup ds=>some (bF ds)
 | .lst ds=>some (bF ds)
 |_=>none
theorem F_{tg l:Expr}{U:TE}(hl:PE X l U):PI X tg l (λ σ H R=>U σ H λ x H1=>∃a,x= .ref a/\(((∃xs,fG X.K H1 a xs)/\R (IA X.K a) H1)\/((∃xs,gx X.K H1 a xs)/\R (Kh X.K a) H1))):=by
 intro pins s σ H R I h;refine cp (hl pins s σ H _ I h) λ v s1 ⟨x,H1,C,r1,q1⟩=>?_;obtain⟨a,e,q⟩:=q1;subst e;cases r1;rcases q with⟨⟨xs,J⟩,q⟩|⟨⟨xs,J⟩,q⟩
 .obtain⟨its,rv,p,hz⟩:=C.list J;refine wpAny_pyIter_list p.isList ?_;refine⟨s1.heap.objs.size,[s1.heap.objs.size],_,_,H1,rfl,C.kept (t':=s1.toks) λ b o e=>Heap.get?_push_of_some _ e,gF a _,⟨_,Heap.get?_push_size _ rfl,rfl,rfl⟩,λ b hb=>?_,q⟩;have e:b=s1.heap.objs.size:=by simp_all
  subst e;exact C.fpOk (Nat.le_refl _) (C.hok.fresh (Nat.le_refl _))
 .obtain⟨its,rv,p,hz⟩:=C.tuple J;refine wpAny_pyIter_tuple (show s1.heap.IsTuple a its.toArray from p) ?_;refine⟨s1.heap.objs.size,[s1.heap.objs.size],_,_,H1,rfl,C.kept (t':=s1.toks) λ b o e=>Heap.get?_push_of_some _ e,sy a _,⟨_,Heap.get?_push_size _ rfl,rfl,rfl⟩,λ b hb=>?_,q⟩;have e:b=s1.heap.objs.size:=by simpa using hb
  subst e;exact C.fpOk (Nat.le_refl _) (C.hok.fresh (Nat.le_refl _))
theorem cj{tg l:Expr}(J:DE X l fa):DI X tg l (do let x<- fa;lift (d9 x)):=uU (F_ J) λ σ H R ⟨c,U,S,T,it,aa,s,e,k⟩=>by obtain⟨x,o,e1,e⟩:=bind_some e;obtain⟨C,rfl⟩:=ba e;refine⟨c,U,S,T,x,o,s,e1,λ v H' s'=>?_⟩;cases x with
 |tup ds=>cases C;obtain⟨p,vs,rfl,I,h2⟩:=s'.st.head.tup;exact⟨p,rfl,.inr ⟨⟨vs,.of (br _ _ I)⟩,k _ [.tup ds] [.ref p] H' rfl (CP rfl) s'⟩⟩
 |lst ds=>cases C;obtain⟨p,vs,rfl,I,h2⟩:=s'.st.head.lst;exact⟨p,rfl,.inl ⟨⟨vs,.inl (Rd.mono br I)⟩,k _ [.lst ds] [.ref p] H' rfl B2 s'⟩⟩
 |_=>cases C
noncomputable def bZ(lo:Int)(n:Nat):List D:=(List.range n).map λ(i:Nat)=>D.int (lo+(i:Int))
theorem B6:Hg (JH lo n) (bF (bZ lo n)) [] []:= λ c I S σ T H i s=>by
 refine⟨λ act d C hd=>?_,λ e _=>by
  have:(bF (bZ lo n)).1.length=n:=by simp[bF,bZ]
  show n<=i;omega⟩;have h:=eZ C hd;unfold bZ at h;rw[List.getElem?_map]at h;have o:i<n:=by grind
 rw[List.getElem?_range o]at h;cases h;refine⟨o,λ x H' y=>?_⟩;obtain⟨rfl,rfl⟩:=y;exact s.stk (.cons .mkI s.st)
noncomputable def dw(i:Int):Bool:=decide (-(2^62)<=i)&&decide (i<2^62)
noncomputable def i5:List D->Option jB
 |[.int j]=>if dw j=true then some (bF (bZ 0 j.toNat))else none
 |_=>none
theorem cz{tg a:Expr}{p:Pos}{fs:M (List D)}(J:Gl X "range")(hm:X.mg "range"=none)(U:DA X [a] fs)(hs:starEach [a] X.env=[(false,eval a X.env)]:=by rfl):DI X tg (.Call (.Name "range" p) [a] [] pos) (mC i5 fs):=
 uU (vB J hm U hs) λ σ H R ⟨c,δ,S,T,it,aa,s,e,k⟩=>by
  obtain⟨ds,C,e1,e⟩:=bind_some e;obtain⟨o,rfl⟩:=ba e;refine⟨c,δ,S,T,ds,C,s,e1,λ vs H' l s'=>?_⟩;unfold i5 at o;split at o
  .split at o;. rename_i j I;cases o;obtain⟨v,rfl,r⟩:=wy (s'.st.left l);cases r.int;simp[dw]at I;exact⟨j,rfl,I.1,I.2,k _ [] [] H' rfl B6 (s'.stk (s'.st.right l))⟩
   .cases o
  grind
noncomputable def dg(i n:Nat):jB:=((List.range n).map λ(j:Nat) (o:DS)=>match o[i]? with
 |some (.ow _ xs)=>if xs.length=n then xs[j]? else none
 |_=>none,λ o=>match o[i]? with
 |some (.ow _ xs)=>decide (xs.length=n)
 |_=>false)
noncomputable def dC(i:Nat):M (List D):= λ o=>match o[i]? with
 |some (.ow _ xs)=>some (xs,o)
 |_=>none
theorem bU{C o:DS}(h:dC i C=some (xs,o)):(∃b,C[i]?=some (.ow b xs))/\C=o:=by unfold dC at h;grind
end
section
variable {X:Cx} {a b e tg iter elt:Expr} {te:M D} {pos:Pos} {st:Stmt} {f body:M Fl} {tt:M Bool} {fi:M jB} {gt:D->M Unit}
theorem Sl.drop(s:Sl c o (A++S) σ (P++T) H)(l:P.length=A.length):Sl c o S σ T H:=s.stk (s.st.right l)
theorem Sl.rot(s:Sl c C (A++(B++S)) σ (P++(Q++T)) H)(l:P.length=A.length)(o:Q.length=B.length):Sl c C (B++(A++S)) σ (Q++(P++T)) H:=
 s.stk (((s.st.right l).left o).append ((s.st.left l).append ((s.st.right l).right o)))
noncomputable def forM(gt:D->M Unit)(body:M Fl)(fin:DS->Bool):List (DS->Option D)->M Fl
 |[]=> λ o=>if fin o=true then some (.nx,o)else none
 |a::r=> λ o=>match a o with
  |none=>none
  |some d=>(do
   gt d
   let C<- body
   match C with
   | .nx=>forM gt body fin r
   | .ct=>forM gt body fin r
   | .bk=>pure .nx
   | .rt d=>pure (.rt d)
   | .rf d=>pure (.rf d)) o
theorem fA(hi:DI X tg iter fi)(hg:DG X 0 tg gt)(hb:mI X ag body)(hp:PassesOwn (model X.prog X.w) X.A X.env X.xe:=by exact PassesOwn.never)(hc:X.calm=true:=by rfl)
  (hs:∀x,foldedSetIterable iter X.env x=pure x:=by intro _;rfl):lQ X (.For tg iter ag [] pos) (do let it<- fi;forM gt body it.2 it.1):=iq (Ft hp hc hi hg hb hs) λ E ak H0 ⟨c,ah,S,T,fl,aa,s0,e,k⟩=>by
 obtain⟨it,ab,e1,e⟩:=bind_some e;refine⟨c,ah,S,T,it,ab,s0,e1,λ J Sx Tx H1 l hJ s1=>?_⟩;obtain⟨items,fin⟩:=it;refine⟨λ i m σ H=>∃o,m=items.length-i/\i<=items.length/\Sl c o (Sx++S) σ (Tx++T) H/\forM gt body fin (items.drop i) o=some (fl,aa),⟨_,ab,rfl,Nat.zero_le _,s1,e⟩,?_⟩;rintro i m σ H ⟨o,rfl,hi,s,em⟩;by_cases I:i<items.length;. rw[List.drop_eq_getElem_cons I]at em;unfold forM at em;cases ea:items[i] o with
  |none=>rw[ea]at em;cases em
  |some d=>rw[ea]at em;obtain⟨u,ae,e2,em⟩:=bind_some em;obtain⟨af,U,e3,em⟩:=bind_some em;obtain⟨go,ai⟩:=(hJ c o S σ T H i s).1 items[i] d (List.getElem?_eq_getElem I) ea;refine .inr ⟨go,λ C H'=>∃o,Sl c o (Sx++S) C (Tx++T) H'/\forM gt body fin (items.drop (i+1)) o=some (fl,aa),λ C H' ⟨aj,sj,ej⟩=>⟨items.length-(i+1),by omega,aj,rfl,I,sj,ej⟩,λ x H' y=>?_⟩;refine⟨c,o,Sx++S,Tx++T,d,ae,ai x H' y,e2,λ ao H2 _ s2=>⟨c,ae,Sx++S,Tx++T,af,U,s2,e3,?_⟩⟩;cases af with
   |nx=>exact λ C H' s'=>⟨U,s',em⟩
   |ct=>exact λ C H' s'=>⟨U,s',em⟩
   |bk=>obtain⟨rfl,rfl⟩:=aV em;exact λ C H' s'=>k _ _ (s'.drop l)
   |rt d'=>obtain⟨rfl,rfl⟩:=aV em;exact λ v C H' s'=>k v C H' (s'.stk (.cons s'.st.head (s'.st.tail.right l)))
   |rf xs=>obtain⟨rfl,rfl⟩:=aV em;exact λ q vs C H' h1 h2 h3 h4 h5=>k q vs C H' h1 (h2.stk ((h2.st.left h1).append ((h2.st.right h1).right l))) h3 h4 h5
 .have ei:i=items.length:=by omega
  subst ei;rw[List.drop_length]at em;unfold forM at em;by_cases hf:fin o=true;. rw[if_pos hf]at em;cases em;exact .inl ⟨(hJ c _ S σ T H _ s).2 rfl hf,k _ _ (s.drop l)⟩
  simp_all
noncomputable def La(J:It)(its:jB)(C:List D)(I:List V)(σ:St):Prop:=∀(c:Ct)(o:DS)(S:List D)(T:List V)(H:Hp)(i:Nat),Sl c o (C++S) σ (I++T) H->
 (∀act d,its.1[i]?=some act->act o=some d->J.go i H/\∀x H',J.yld i H x H'->Sl c o (d::(C++S)) σ (x::(I++T)) H')/\(i=its.1.length->its.2 o=true->J.stop i H)
inductive Jy (f:M jB) (σ:St) (H:Hp) (R:It->Hp->Prop):Prop
 | mk (c:Ct) (δ:DS) (S:List D) (T:List V) (it:jB) (δ':DS) (s:Sl c δ S σ T H) (e:f δ=some (it,δ')) (q:∀J Sx Tx H',Tx.length=Sx.length->La J it Sx Tx σ->Sl c δ' (Sx ++ S) σ (Tx ++ T) H' -> R J H'):Jy f σ H R
noncomputable abbrev DC(X:Cx)(tg iter:Expr)(f:M jB):Prop:=PI X tg iter (Jy f)
theorem cw(h:DI X tg iter fi):DC X tg iter fi:=uU h λ σ H R ⟨c,o,S,T,it,C,s,e,k⟩=>⟨c,o,S,T,it,C,s,e,λ J I U H' l hJ s'=>k J I U H' l (λ c o S T H i=>hJ c o S σ T H i) s'⟩
theorem GF(i:Nat){x:Str}{pos:Pos}(hN:X.N[i]?=some x:=by rfl)(hv:oZ X.env.scope x:=by first|exact Or.inl rfl|exact Or.inr (Or.inl rfl)|exact Or.inr (Or.inr rfl))(hd:(x==("__debug__":Str))=false:=by decide)
  (aa:(x==("__classdict__":Str))=false:=by decide):DC X tg (.Name x pos) (do let xs<- dC i;pure (dg i xs.length)):=uU (Dd (cY hN hv hd aa)) λ σ H R ⟨c,δ,S,T,it,ab,s,e,k⟩=>by
 obtain⟨xs,ae,e1,e⟩:=bind_some e;obtain⟨rfl,rfl⟩:=aV e;obtain⟨⟨b,hi⟩,rfl⟩:=bU e1;obtain⟨a,vs,ea,hH,hv,_⟩:=s.ow i b xs hi;refine⟨_,ea,a,rfl,⟨vs,.of hH⟩,k _ [] [] H rfl ?_ s⟩;intro c δ S T H j s;refine⟨λ act d J hd=>?_,λ ej hf=>?_⟩
 .unfold dg at J;rw[List.getElem?_map]at J;have hj:j<xs.length:=by
   by_cases hj:j<xs.length;. exact hj
   .rw[List.getElem?_eq_none (by simp;omega)]at J;cases J
  rw[List.getElem?_range hj]at J;cases J;dsimp only at hd;split at hd
  .rename_i b' ys hy;split at hd
   .obtain⟨a',ws,o,C,I,_⟩:=s.ow i b' ys hy;rw[ea]at o;cases o;obtain⟨v,U,r⟩:=I.get hd;refine⟨⟨ws,v,.of C,U⟩,λ x H' y=>?_⟩;obtain⟨rfl,y⟩:=y;have:=y ws (.of C);rw[U]at this;cases this;exact s.stk (.cons r s.st)
   .cases hd
  simp_all
 .unfold dg at hf ej;dsimp only at hf;split at hf;. rename_i b' ys hy;obtain⟨a',ws,o,C,I,_⟩:=s.ow i b' ys hy;rw[ea]at o;cases o;have hl:ys.length=xs.length:=of_decide_eq_true hf;refine⟨ws,.of C,?_⟩;rw[I.length,ej];simp;omega
  .cases hf
noncomputable def cN(gt:D->M Unit)(tt:M Bool)(te:M D)(d:D):M (Option D):=do
 gt d
 let b<- tt
 if b=true then do
  let x<- te
  pure (some x)
 else pure none
noncomputable def eJ(own:Nat)(turn:D->M (Option D))(fin:DS->Bool):List (DS->Option D)->M (List D)
 |[]=> λ C=>if fin C=true then some ([],C)else none
 |a::r=> λ C=>match a C with
  |none=>none
  |some d=>match turn d (C++List.replicate own .un)with
   |none=>none
   |some (o,I)=>match eJ own turn fin r (I.take C.length)with
    |none=>none
    |some (xs,J)=>some (o.toList++xs,J)
noncomputable def jl(n:Nat):M Unit:= λ o=>if o.length=n then some ((),o)else none
noncomputable def fe(lo own:Nat)(fi:M jB)(turn:D->M (Option D)):M (List D):=do
 jl lo
 let it<- fi
 let _<- lift (few it.1.length)
 eJ own turn it.2 it.1
theorem pW:∀σ H Q,G5 (fe lo own fi (cN gt tt te)) σ H Q->gQ (Jy fi) own (Jq lo gt) (vR tt) (tM te) σ H Q:= λ σ H Q ⟨c,ah,S,T,xs,au,s0,e,k⟩=>by
 obtain⟨u,av,e0,e⟩:=bind_some e;have ae:σ.length=lo/\ah=av:=by
  unfold jl at e0;split at e0;. cases e0;exact⟨by rw[<- s0.len];assumption,rfl⟩
  .cases e0
 obtain⟨ae,rfl⟩:=ae;obtain⟨it,ai,e1,e⟩:=bind_some e;obtain⟨u',aw,e2,e⟩:=bind_some e;obtain⟨e3,rfl⟩:=ba e2;have aj:=(fV e3).2;refine⟨c,ah,S,T,it,ai,s0,e1,λ J Sx Tx H1 l hJ s1 q hq=>?_⟩;obtain⟨items,fin⟩:=it;dsimp only at e aj;obtain⟨f1,f2,f3⟩:=s1.fresh hq;refine⟨λ i m acc H=>∃I C af,m=items.length-i/\i<=items.length/\acc.length=C.length/\acc.length<=i/\Sl { c with Z:=upd c.Z q (.lst acc) } I (C++(Sx++S)) σ (acc++(Tx++T)) H/\
  eJ own (cN gt tt te) fin (items.drop i) I=some (af,au)/\C++af=xs,⟨_,ai,[],xs,rfl,Nat.zero_le _,rfl,Nat.le_refl _,s1.hide hq,e,rfl⟩,?_⟩;rintro i m acc H ⟨I,C,af,rfl,hi,la,li,s,em,ex⟩;have ak:H q=some (.lst acc):=s.zz q _ bf;refine⟨ak,?_⟩;have sr:=s.rot la l;by_cases aa:i<items.length;. rw[List.drop_eq_getElem_cons aa]at em;unfold eJ at em;cases ea:items[i] I with
  |none=>rw[ea]at em;cases em
  |some d=>rw[ea]at em;dsimp only at em;cases U:cN gt tt te d (I++List.replicate own .un)with
   |none=>rw[U]at em;cases em
   |some p=>obtain⟨o,ax⟩:=p;rw[U]at em;dsimp only at em;cases ec:eJ own (cN gt tt te) fin (items.drop (i+1)) (ax.take I.length)with
    |none=>rw[ec]at em;cases em
    |some p=>
     obtain⟨ao,aw⟩:=p;rw[ec]at em;cases em;obtain⟨u1,aq,ay,U⟩:=bind_some U;obtain⟨b,ag,az,U⟩:=bind_some U;obtain⟨go,aA⟩:=(hJ { c with Z:=upd c.Z q (.lst acc) } I (C++S) (acc++T) H i sr).1 items[i] d (List.getElem?_eq_getElem aa) ea;refine .inr ⟨go,λ x H' y=>?_⟩;refine⟨{ c with Z:=upd c.Z q (.lst acc) },I++List.replicate own .un,Sx++(C++S),Tx++(acc++T),d,aq,(aA x H' y).ext own,ay,λ aB H2 hn s2=>?_⟩;have ht:aB.take σ.length=σ:=by rw[hn _ (Nat.le_of_eq ae)];exact List.take_left' rfl
     refine⟨ht,{ c with Z:=upd c.Z q (.lst acc) },aq,Sx++(C++S),Tx++(acc++T),b,ag,s2,az,λ H3 s3=>?_⟩;have ab:I.length=σ.length:=s.len;cases b with
     |true=>obtain⟨y1,ar,ey,U⟩:=bind_some U;obtain⟨rfl,rfl⟩:=aV U;refine⟨{ c with Z:=upd c.Z q (.lst acc) },ag,Sx++(C++S),Tx++(acc++T),y1,ar,s3,ey,λ v H4 s4=>?_⟩;refine⟨s4.zz q _ bf,by omega,items.length-(i+1),by omega,ar.take I.length,C++[y1],ao,rfl,aa,by simp[la],by simp;omega,?_,ec,by rw[<- ex];simp⟩;have s5:=s4.cut σ.length;rw[ht,<- ab]at s5;have s6:=Sl.hideSet (.lst (acc++[v])) s5 f2 f3;refine s6.stk ?_;have h1:=s6.st.head;have h2:=s6.st.tail.left l;have h3:=s6.st.tail.right l;have h4:=h3.left la;have h5:=h3.right la;exact(h4.append (.cons h1 .nil)).append (h2.append h5)
     |false=>obtain⟨rfl,rfl⟩:=aV U;refine⟨items.length-(i+1),by omega,ag.take I.length,C,ao,rfl,aa,la,by omega,?_,ec,ex⟩;have s5:=s3.cut σ.length;rw[ht,<- ab]at s5;exact s5.rot l la
 .have ei:i=items.length:=by omega
  subst ei;rw[List.drop_length]at em;unfold eJ at em;by_cases hf:fin I=true;. rw[if_pos hf]at em;cases em;rw[List.append_nil]at ex;subst ex;refine .inl ⟨(hJ { c with Z:=upd c.Z q (.lst acc) } _ (C++S) (acc++T) H _ sr).2 rfl hf,k q acc H la ?_ f1 f2 f3⟩;exact s.stk ((s.st.left la).append ((s.st.right la).right l))
  .rw[if_neg hf]at em;cases em
theorem jD:sG X [] (vR (pure true)):= λ pins s σ H Q I ⟨c,C,S,T,b,o,sl,e,k⟩=>by obtain⟨rfl,rfl⟩:=aV e;exact tP pins s σ H Q I (k H sl)
theorem DU(h:DT X t tt):sG X [t] (vR tt):=Dn h
variable {N' own:List Str} {scope:Scope} {ifs:List Expr} {lo:Nat}
theorem Dw(o:DC X tg iter fi)(C:∀s H fp pins,DG (blk X N' own scope s H fp pins) lo tg gt)(I:∀s H fp pins,sG (blk X N' own scope s H fp pins) ifs (vR tt))(he:∀s H fp pins,DE (blk X N' own scope s H fp pins) elt te)
  (J:dh N' own X.env.scope scope=true:=by rfl)(U:di X.N N' scope=true:=by rfl)(hk:scope.kind= .function:=by rfl)(hc:X.calm=true:=by rfl)(hs:∀x,foldedSetIterable iter X.env x=pure x:=by intro _;rfl):
  DF X (.ListComp elt [⟨tg,iter,ifs,0⟩] scope pos) (fe lo own.length fi (cN gt tt te)):=cB (Br o C I he J U hk hc hs) pW
theorem K2{te:TE}{f:M (List D)}(w:∀σ H Q,G5 f σ H Q->te σ H Q):∀σ H Q,tM (do let xs<- f;pure (.lst xs)) σ H Q->te σ H Q:= λ σ H Q ⟨c,C,S,T,d,I,s,e,k⟩=>by obtain⟨xs,o,J,U⟩:=bind_some e;obtain⟨rfl,rfl⟩:=aV U;exact w _ _ _ ⟨c,C,S,T,xs,o,s,J,λ l vs H' hl s' hz _ _=>k _ _ (s'.unhideL hl hz)⟩
theorem zx(i:Nat){x:Str}{o C:Pos}(U:X.N.Nodup)(hi:DC X tg iter fi)(hg:∀s H fp pins,DG (blk X N' own scope s H fp pins) lo tg gt)(ht:∀s H fp pins,sG (blk X N' own scope s H fp pins) ifs (vR tt))(he:∀s H fp pins,DE (blk X N' own scope s H fp pins) elt te)
  (I:X.N[i]?=some x:=by rfl)(hx:X.env.scope.names.lookup x=some .local:=by rfl)
  (J:swapsWith (.ListComp elt [⟨tg,iter,ifs,0⟩] scope pos) (some (.Name x o)) C.line X.env=pure true:=by rfl)
  (hS:dh N' own X.env.scope scope=true:=by rfl)(hM:di X.N N' scope=true:=by rfl)(hk:scope.kind= .function:=by rfl)(hc:X.calm=true:=by rfl)(hs:∀x,foldedSetIterable iter X.env x=pure x:=by intro _;rfl):
  lQ X (.Assign [.Name x o] (.ListComp elt [⟨tg,iter,ifs,0⟩] scope pos) C) (td i (do let xs<- fe lo own.length fi (cN gt tt te);pure (.lst xs))):=
 iq (CM U I hx hi hg ht he J hS hM hk hc hs) (IX (K2 pW))
end
noncomputable def hz(Z H:Hp):Hp:=BP (λ a=>∃o,Z a=some o) H
noncomputable def qQ(n:Nat)(o:List D->Option D):Sp:= λ vs H Q _=>vs.length=n/\∃(Z:Hp) (ds:List D) (d:D),EY Z H/\Rs (hz Z H) ds vs/\o ds=some d/\∀v H',fM H H'->R (hz Z H') d v->Q v H'
noncomputable def G4(n:Nat)(o:List D->Option (List D)):Sp:= λ vs H Q _=>vs.length=n/\∃(Z:Hp) (ds:List D) (xs:List D),EY Z H/\Rs (hz Z H) ds vs/\o ds=some xs/\
 ∀l ws H',fM H H'->H l=none->H' l=some (.lst ws)->Rs (hz (upd Z l (.lst ws)) H') xs ws->Q (.ref l) H'
noncomputable def GX(n:Nat)(J:List D->List D->Option (D×List D)):Sp:= λ vs H Q _=>vs.length=n/\∃(Z:Hp) (a:Addr) (ws:List V) (xs:List D) (us:List V) (ds:List D) (d:D) (I:List D),vs= .ref a::us/\EY Z H/\Z a=none/\H a=some (.lst ws)/\
 Rs (hz (upd Z a (.lst ws)) H) xs ws/\Rs (hz (upd Z a (.lst ws)) H) ds us/\J xs ds=some (d,I)/\
 ∀v C H',(∀b o,b≠a->H b=some o->H' b=some o)->H' a=some (.lst C)->Rs (hz (upd Z a (.lst C)) H') I C->R (hz (upd Z a (.lst C)) H') d v->Q v H'
section
variable {c:Ct} {δ:DS} {S:List D} {σ:St} {T:List V} {H:Hp}
open Classical in
noncomputable def yY(c:Ct)(δ:DS)(σ:St)(H:Hp):Hp:= λ a=>if Hd c δ σ a then H a else none
theorem d3(s:Sl c δ S σ T H)(a:Addr):(∃o,yY c δ σ H a=some o)↔Hd c δ σ a:=by
 unfold yY;by_cases h:Hd c δ σ a;. rw[if_pos h];exact Iff.intro (λ _=>h) λ _=>s.hdSome h
 simp_all
theorem kN(s:Sl c δ S σ T H):EY (yY c δ σ H) H:= λ a o h=>by
 unfold yY at h;split at h
 .rename_i hd;refine⟨h,λ xs e=>?_⟩;subst e;rcases hd with⟨o,z⟩|⟨i,bb,ys,C,I⟩|⟨i,ks,C,I⟩
  .obtain⟨C,I⟩:=s.zk a o z;rw[h]at C;cases C;exact I xs rfl
  .obtain⟨U,ws,e,J,_⟩:=s.ow i bb ys C;rw[I]at e;cases e;rw[h]at J;cases J
  .obtain⟨U,e,J,_⟩:=s.od i ks C;rw[I]at e;cases e;rw[h]at J;cases J
 grind
end
section
variable {X:Cx} {a b e:Expr} {fs:M (List D)} {pos p:Pos} {es:List Expr} {x:Str} {k:Nat} {f:Addr} {fd:FuncData} {ps:List Str}
theorem BW{n:Nat}(F:cZ X.prog X.w X.K X.mg X.base d8 k f fd ps (qQ n mf))(hr:bR k X.A)(hm:X.mg x=some (.ref f))(hk:PySem.W.keepIn X.K (.ref f)=true)(hb:Binds X.K fd ps [])(ha:DA X (a::es) fs)
  (hg:Gl X x:=by rfl)(I:(x==("__debug__":Str))=false:=by decide)(he:starEach (a::es) X.env=(false,eval a X.env)::starEach es X.env:=by rfl)(J:(backTo pos (starEach es X.env)).any (·.1)=false:=by rfl):
  DE X (.Call (.Name x p) (a::es) [] pos) (mC (λ ds=>if ds.length=n then mf ds else none) fs):=cB (jF F hr hg hm hk hb .nil uF ha I he J) λ σ H Q ⟨c,δ,S,T,d,aa,s,e,k⟩=>by
 obtain⟨ds,C,e1,e⟩:=bind_some e;obtain⟨U,rfl⟩:=ba e;refine⟨c,δ,S,T,ds,C,s,e1,λ vs H1 l s1=>?_⟩;dsimp only at U|-;split at U;. rename_i hn;rw[List.append_nil];refine⟨l.trans hn,yY c C σ H1,ds,d,kN s1,(s1.st.left l).mono (bq (λ a o _ z=>(d3 s1 a).mp z) λ _ _ _ h=>h),U,λ v H' g r=>k v H' ?_⟩;have s2:=s1.grow g;exact s2.stk (.cons (r.mono (bq (λ a o _ z=>(d3 s1 a).mpr z) λ _ _ _ h=>h)) (s2.st.right l))
 simp_all
theorem Bg{n:Nat}(F:cZ X.prog X.w X.K X.mg X.base d8 k f fd ps (G4 n mf))(hr:bR k X.A)(hm:X.mg x=some (.ref f))(hk:PySem.W.keepIn X.K (.ref f)=true)(J:Binds X.K fd ps [])(ha:DA X (a::es) fs)
  (hg:Gl X x:=by rfl)(U:(x==("__debug__":Str))=false:=by decide)(he:starEach (a::es) X.env=(false,eval a X.env)::starEach es X.env:=by rfl)(aa:(backTo pos (starEach es X.env)).any (·.1)=false:=by rfl):
  DF X (.Call (.Name x p) (a::es) [] pos) (mC (λ ds=>if ds.length=n then mf ds else none) fs):=cB (jF F hr hg hm hk J .nil uF ha U he aa) λ σ H Q ⟨c,δ,S,T,d,ae,s,e,k⟩=>by
 obtain⟨ds,C,e1,e⟩:=bind_some e;obtain⟨e2,rfl⟩:=ba e;refine⟨c,δ,S,T,ds,C,s,e1,λ vs H1 l s1=>?_⟩;dsimp only at e2|-;split at e2
 .rename_i hn;rw[List.append_nil];refine⟨l.trans hn,yY c C σ H1,ds,d,kN s1,(s1.st.left l).mono (bq (λ a o _ z=>(d3 s1 a).mp z) λ _ _ _ h=>h),e2,λ q ws H' g hq ab r=>?_⟩;obtain⟨f1,f2,f3⟩:=s1.fresh hq
  have s2:Sl { c with Z:=upd c.Z q (.lst ws) } C S σ T H':=by
   have h0:=(s1.drop l).hide (o:= .lst ws) hq;refine h0.grow λ b o J=>?_;by_cases eb:b=q;. subst eb;rw[bf]at J;cases J;exact ab
   .rw[aZ eb]at J;exact g b o J
  refine k q ws H' r.length (s2.stk ((r.mono (bq (λ a o ha z=>?_) λ _ _ _ h=>h)).append s2.st)) f1 f2 f3;rcases z with⟨w,z⟩|z
  .have z':upd c.Z q (.lst ws) a=some w:=z;by_cases I:a=q;. subst I;exact⟨_,bf⟩
   .rw[aZ I]at z';obtain⟨o',h'⟩:=(d3 s1 a).mpr (.inl ⟨w,z'⟩);exact⟨o',by rw[aZ I];exact h'⟩
  .have I:a≠q:= λ I=>s1.hdNew hq (.inr (by rw[<- I];exact z));obtain⟨o',h'⟩:=(d3 s1 a).mpr (.inr z);exact⟨o',by rw[aZ I];exact h'⟩
 simp_all
noncomputable def l3(i n:Nat)(I:List D->List D->Option (D×List D))(fs:M (List D)):M D:= λ δ=>match fs δ with
 |none=>none
 |some (ds,o)=>match o[i]? with
  |some (.ow b xs)=>if ds.length+1=n then(match I xs ds with
   |none=>none
   |some (d,C)=>some (d,o.set i (.ow b C)))else none
  |_=>none
theorem u7(i:Nat){mf:List D->List D->Option (D×List D)}{n:Nat}{y:Str}{py:Pos}(F:cZ X.prog X.w X.K X.mg X.base d8 k f fd ps (GX n mf))(hr:bR k X.A)(hm:X.mg x=some (.ref f))(hk:PySem.W.keepIn X.K (.ref f)=true)(hb:Binds X.K fd ps [])(ha:DA X es fs)
  (hN:X.N[i]?=some y:=by rfl)(hv:oZ X.env.scope y:=by first|exact Or.inl rfl|exact Or.inr (Or.inl rfl)|exact Or.inr (Or.inr rfl))(hd:(y==("__debug__":Str))=false:=by decide)(aa:(y==("__classdict__":Str))=false:=by decide)
  (hg:Gl X x:=by rfl)(ab:(x==("__debug__":Str))=false:=by decide)(he:starEach (.Name y py::es) X.env=(false,eval (.Name y py) X.env)::starEach es X.env:=by rfl)(ae:(backTo pos (starEach es X.env)).any (·.1)=false:=by rfl):
  DE X (.Call (.Name x p) (.Name y py::es) [] pos) (do let _<- dC i;l3 i n mf fs):=cB (jF F hr hg hm hk hb .nil uF (bh (cY hN hv hd aa) ha he) ab he ae) λ σ H Q ⟨c,δ,S,T,d,ak,s,e,k⟩=>by obtain⟨af,ao,e0,e⟩:=bind_some e;obtain⟨⟨b0,ag⟩,rfl⟩:=bU e0;obtain⟨a,aq,ea,_⟩:=s.ow i b0 af ag;unfold l3 at e;cases e1:fs δ with
 |none=>rw[e1]at e;cases e
 |some q=>
  obtain⟨ds,C⟩:=q;rw[e1]at e;dsimp only at e;split at e
  .rename_i b xs hi;split at e;. cases e2:mf xs ds with
    |none=>rw[e2]at e;cases e
    |some q=>
     obtain⟨d',ah⟩:=q;rw[e2]at e;cases e;refine⟨_,ea,c,δ,S,T,ds,C,s,e1,λ vs H1 l s1=>?_⟩;dsimp only;rw[List.append_nil];obtain⟨a',ws,J,hH,ai,hB,ar,hZ⟩:=s1.ow i b xs hi;rw[ea]at J;cases J;have aj:Hd c C σ a:= .inr (.inl ⟨i,b,xs,hi,ea⟩);have zi:∀(o:HO)(y:Addr),(∃u,upd (λ z=>if z=a then none else yY c C σ H1 z) a o y=some u)↔Hd c C σ y:= λ o y=>by
      by_cases I:y=a;. subst I;rw[bf];exact Iff.intro (λ _=>aj) λ _=>⟨o,rfl⟩
      .rw[aZ I,if_neg I];exact d3 s1 y
     refine⟨by simp[l];omega,λ z=>if z=a then none else yY c C σ H1 z,a,ws,xs,vs,ds,d,ah,rfl,λ b o h=>?_,if_pos rfl,hH,ai.mono (bq (λ y o _ z=>(zi _ y).mp z) λ _ _ _ h=>h),
      (s1.st.left l).mono (bq (λ y o _ z=>(zi _ y).mp z) λ _ _ _ h=>h),e2,λ v U H' g ga r1 r2=>k v H' ?_⟩
     .dsimp only at h;split at h;. cases h
      .exact kN s1 _ _ h
     .have gr:fM H1 (upd H' a (.lst ws)):= λ y o hy=>by
       by_cases I:y=a;. subst I;rw[hH]at hy;cases hy;exact bf
       .rw[aZ I];exact g y o I hy
      have s2:=(s1.drop l).grow gr;have m2:∀y o,hz (upd (λ z=>if z=a then none else yY c C σ H1 z) a (.lst U)) H' y=some o->fg c C σ (upd H' a (.lst ws)) y=some o :=
       bq (λ y o _ z=>(zi _ y).mpr z) λ y o hy h=>by have:y ≠ a:=λ I=>hy (by rw [I];exact ⟨_,bf⟩);rw [aZ this];exact h
      have s3:=(s2.stk (.cons (r2.mono m2) s2.st)).mut hi ea (r1.mono m2);have eH:upd (upd H' a (.lst ws)) a (.lst U)=H':= by
       rw [t_];funext y;by_cases I:y=a;. subst I;rw [bf,ga]
       .rw [aZ I]
      rw [eH] at s3;exact s3
   grind
  grind
end
noncomputable def entry(N:List Str)(ds:List D):DS:=ds.map .pu++List.replicate (N.length-ds.length) .un
noncomputable def cg(N:List Str)(body:M Fl)(ds:List D):Option D:=match body (entry N ds)with
 |some (.rt d,_)=>some d
 |some (.nx,_)=>some .non
 |_=>none
noncomputable def i_(N:List Str)(body:M Fl)(ds:List D):Option (List D):=match body (entry N ds)with
 |some (.rf xs,_)=>some xs
 |_=>none
noncomputable def dY(N:List Str)(xs ds:List D):DS:= .ow true xs::(ds.map .pu++List.replicate (N.length-(ds.length+1)) .un)
noncomputable def gN(N:List Str)(body:M Fl)(xs ds:List D):Option (D×List D):=match body (dY N xs ds)with
 |some (.rt d,δ)=>(match(show DS from δ)[0]? with
  |some (Slot.ow true o)=>some (d,o)
  |_=>none)
 |_=>none
theorem cV{ds:List D}{n:Nat}{i:Nat}{x:Slot}(h:(ds.map Slot.pu++List.replicate n .un)[i]?=some x):(∃d,x= .pu d/\ds[i]?=some d)\/x= .un:=by
 by_cases hi:i<ds.length;. rw[List.getElem?_append_left (by simpa using hi),List.getElem?_map]at h;simp_all
 .rw[List.getElem?_append_right (by simpa using hi),List.getElem?_replicate]at h;simp_all
theorem kL{ds:List D}{vs:List V}(U:EY Z H)(r:Rs (hz Z H) ds vs)(hl:vs.length<=N.length):Sl ⟨Z,[],H⟩ (entry N ds) [] (L2.start N vs) [] H:=by
 have C:∀a,¬Oa (entry N ds) (L2.start N vs) a:= λ a z=>by rcases z with⟨i,b,xs,I,_⟩|⟨i,ks,I,_⟩ <;> rcases cV I with⟨d,e,_⟩|e <;> cases e
 have m:∀b o,hz Z H b=some o->fg ⟨Z,[],H⟩ (entry N ds) (L2.start N vs) H b=some o:=bq (λ a o _ z=>z.elim (λ z=>z) λ z=>absurd z (C a)) λ _ _ _ h=>h;refine⟨?_,λ i d h=>?_,λ i b xs h=>?_,λ i j b b' xs ys a h=>?_,.nil,λ b o _ h=>h,λ b hb=>(nomatch hb),U,λ i ks h=>?_,λ i j ks ls a h=>?_⟩;. have:=r.length;simp[entry,L2.start];omega
 .rcases cV h with⟨d',e,hd⟩|e
  .cases e;obtain⟨v,J,rv⟩:=r.get hd;refine⟨v,?_,rv.mono m⟩;have hi:i<vs.length:=(List.getElem?_eq_some_iff.mp J).1;unfold L2.start;rw[List.getElem?_append_left (by simpa using hi),List.getElem?_map,J];rfl
  grind
 .rcases cV h with⟨d',e,hd⟩|e <;> cases e
 .rcases cV h with⟨d',e,hd⟩|e <;> cases e
 .rcases cV h with⟨d',e,hd⟩|e <;> cases e
 .rcases cV h with⟨d',e,hd⟩|e <;> cases e
section
variable {P:Program} {w:World} {K:PySem.W.Frag} {mg:Str->Option Value} {base:Heap} {x qual:Str} {st:Stmt} {f:Addr} {fd:FuncData} {N ps:List Str} {k:Nat} {body:M Fl}
theorem KO(F:wz K x qual st f fd)(S:bT N ps (aX st))(U:∀(cdv:Value)(A:Around)(outer:List Env)(s:Shared)(H:Hp)(E:XK),bR k (A.deeper (PyProof.Rows.envOfC qual (aX st) s.heap.objs.size f cdv))->mI (eE d8 P w K mg base N qual (aX st) f cdv A outer s H E).nox (bA st) body):
  cZ P w K mg base d8 (k+1) f fd ps (qQ ps.length (cg N body)):=by
 refine F.ok S (λ vs H Q E h=>h.1) (λ cdv A outer s H vs Q E hr h=>⟨_,U cdv A outer s H E hr,?_⟩);obtain⟨hl,Z,ds,d,hZ,r,e,q⟩:=h;have aa:ps.length<=N.length:=by have:=congrArg List.length S.pre;grind
 have s0:=kL (N:=N) hZ r (by rw[hl];exact aa);have fin:∀{C:DS}{I:St}{v:V}{H':Hp},Sl ⟨Z,[],H⟩ C [d] I [v] H'->Q v H':= λ{C I v H'} J=>
  q v H' (λ b o U=>J.keep b o (by simp) U) (J.st.head.mono (bq (λ a o _ z=> .inl z) λ _ _ _ h=>h));unfold cg at e;split at e;. rename_i d' C eb;cases e;exact⟨_,_,_,_,_,_,s0,eb,λ v I H' J=>fin J⟩
 .rename_i C eb;cases e;exact⟨_,_,_,_,_,_,s0,eb,λ I H' J=>fin (v:= .non) (J.stk (.cons .mkN .nil))⟩
 .cases e
theorem KR(F:wz K x qual st f fd)(S:bT N ps (aX st))(C:∀(cdv:Value)(A:Around)(outer:List Env)(s:Shared)(H:Hp)(E:XK),bR k (A.deeper (PyProof.Rows.envOfC qual (aX st) s.heap.objs.size f cdv))->mI (eE d8 P w K mg base N qual (aX st) f cdv A outer s H E).nox (bA st) body):
  cZ P w K mg base d8 (k+1) f fd ps (G4 ps.length (i_ N body)):=by
 refine F.ok S (λ vs H Q E h=>h.1) (λ cdv A outer s H vs Q E hr h=>⟨_,C cdv A outer s H E hr,?_⟩);obtain⟨hl,Z,ds,d,hZ,r,e,q⟩:=h;have I:ps.length<=N.length:=by have:=congrArg List.length S.pre;grind
 have s0:=kL (N:=N) hZ r (by rw[hl];exact I);unfold i_ at e;split at e;. rename_i d' aa eb;cases e;refine⟨_,_,_,_,_,_,s0,eb,λ l J ab H' h1 U h3 h4 h5=>?_⟩;refine q l J H' (λ b o C=>U.keep b o (by simp) C) h5 (U.zz l _ bf) ?_;exact(U.st.left h1).mono (bq (λ a o _ z=> .inl z) λ _ _ _ h=>h)
 .cases e
theorem KY(F:wz K x qual st f fd)(S:bT N ps (aX st))(hb:∀(cdv:Value)(A:Around)(outer:List Env)(s:Shared)(H:Hp)(E:XK),bR k (A.deeper (PyProof.Rows.envOfC qual (aX st) s.heap.objs.size f cdv))->mI (eE d8 P w K mg base N qual (aX st) f cdv A outer s H E).nox (bA st) body):
  cZ P w K mg base d8 (k+1) f fd ps (GX ps.length (gN N body)):=by
 refine F.ok S (λ vs H Q E h=>h.1) (λ cdv A outer s H vs Q E hr h=>⟨_,hb cdv A outer s H E hr,?_⟩);obtain⟨hl,Z,a,ws,xs,us,ds,d,au,rfl,hZ,aa,hH,ag,ab,e,q⟩:=h;have ae:ps.length<=N.length:=by have:=congrArg List.length S.pre;rw[List.length_take]at this;omega
 have aw:us.length+1<=N.length:=by rw[<- hl]at ae;simpa using ae
 have ld:=ab.length;have C:∀(i:Nat) ks,(dY N xs ds)[i]?≠some (.od ks):= λ i ks U=>by cases i with
  |zero=>cases U
  |succ i=>
   have I:(ds.map Slot.pu++List.replicate (N.length-(ds.length+1)) .un)[i]?=some (.od ks):=by simpa[dY]using U
   rcases cV I with⟨d,e,_⟩|e <;> cases e
 have ah:∀b,Oa (dY N xs ds) (L2.start N (.ref a::us)) b->b=a:= λ b z=>by
  rcases z with⟨i,bb,ys,U,h2⟩|⟨i,ks,U,h2⟩
  .cases i with
   |zero=>cases h2;rfl
   |succ i=>
    have I:(ds.map Slot.pu++List.replicate (N.length-(ds.length+1)) .un)[i]?=some (.ow bb ys):=by simpa[dY]using U
    rcases cV I with⟨d,e,_⟩|e <;> cases e
  .exact absurd U (C i ks)
 have m:∀b o,hz (upd Z a (.lst ws)) H b=some o->fg ⟨Z,[a],H⟩ (dY N xs ds) (L2.start N (.ref a::us)) H b=some o:=bq (λ b o _ z=>by
  rcases z with⟨o',z⟩|z
  .have z':Z b=some o':=z;by_cases J:b=a;. rw[J,aa]at z';cases z'
   .exact⟨o',by rw[aZ J];exact z'⟩
  .rw[ah b z];exact⟨_,bf⟩) λ _ _ _ h=>h;have s0:Sl ⟨Z,[a],H⟩ (dY N xs ds) [] (L2.start N (.ref a::us)) [] H:=by
  refine⟨?_,λ i d h=>?_,λ i b ys h=>?_,λ i j b b' ys zs y h h'=>?_,.nil,λ b o _ h=>h,λ b hb=>?_,hZ,λ i ks h=>absurd h (C i ks),λ i j ks ls y h=>absurd h (C i ks)⟩
  .simp only[dY,L2.start,List.length_append,List.length_map,List.length_replicate,List.length_cons];omega
  .cases i with
   |zero=>cases h
   |succ i=>
    have h':(ds.map Slot.pu++List.replicate (N.length-(ds.length+1)) .un)[i]?=some (.pu d):=by simpa[dY]using h
    rcases cV h' with⟨d',e,hd⟩|e
    .cases e;obtain⟨v,hv,rv⟩:=ab.get hd;refine⟨v,?_,rv.mono m⟩;have hi:i<us.length:=(List.getElem?_eq_some_iff.mp hv).1;have:(L2.start N (.ref a::us))[i+1]?=some (some v):=by
      unfold L2.start;rw[List.getElem?_append_left (by simpa using hi),List.getElem?_map,List.getElem?_cons_succ,hv];rfl
     exact this
    .cases e
  .cases i with
   |zero=>
    cases h;exact⟨a,ws,rfl,hH,ag.mono m,(λ _=>List.mem_singleton.mpr rfl),(λ z=>absurd z (by simp)),aa⟩
   |succ i=>
    have h':(ds.map Slot.pu++List.replicate (N.length-(ds.length+1)) .un)[i]?=some (.ow b ys):=by simpa[dY]using h
    rcases cV h' with⟨d',e,hd⟩|e <;> cases e
  .intro _ _;have z:∀(i:Nat) b ys,(dY N xs ds)[i]?=some (.ow b ys)->i=0:= λ i b ys h=>by cases i with
    |zero=>rfl
    |succ i=>
     have h':(ds.map Slot.pu++List.replicate (N.length-(ds.length+1)) .un)[i]?=some (.ow b ys):=by simpa[dY]using h
     rcases cV h' with⟨d',e,hd⟩|e <;> cases e
   rw[z i b ys h,z j b' zs h']
  .rw[List.mem_singleton.mp hb];exact⟨_,hH⟩
 unfold gN at e;split at e
 .rename_i d' ai J;split at e
  .rename_i ys hy;cases e;refine⟨_,_,_,_,_,_,s0,J,λ v aj H' s'=>?_⟩;obtain⟨a',af,ea,ak,ao,aq,_,_⟩:=s'.ow 0 true _ hy;have ar:a'=a:=List.mem_singleton.mp (aq rfl);subst ar;have m':∀b o,fg ⟨Z,[a'],H⟩ ai aj H' b=some o->hz (upd Z a' (.lst af)) H' b=some o:=bq (λ b o _ z=>by
    obtain ⟨o',z⟩:=z;by_cases J:b=a';. subst J;exact .inr (.inl ⟨0,true,_,hy,ea⟩)
    .rw [aZ J] at z;exact .inl ⟨o',z⟩) λ _ _ _ h=>h;exact q v af H' (λ b o hb h=>s'.keep b o (λ z=>hb (List.mem_singleton.mp z)) h) ak (ao.mono m') (s'.st.head.mono m')
  .cases e
 .cases e
end
section
variable {X:Cx} {a b e:Expr} {fa fb:M D} {fs:M (List D)} {pos p apos cpos:Pos} {es:List Expr} {x:Str}
theorem Sl.own (s:Sl c δ S σ T H) {i:Nat} {b:Bool} (hi:δ[i]? = some (.ow b xs)):∃a vs,σ[i]? = some (some (.ref a))∧H a=some (.lst vs)∧Rs (fg c δ σ H) xs vs:= by
 obtain ⟨a,vs,h1,h2,h3,_⟩:=s.ow i b xs hi
 grind
noncomputable def setOw(i:Nat)(xs:List D):M Unit:= λ o=>match o[i]? with
 |some (.ow b _)=>some ((),o.set i (.ow b xs))
 |_=>none
theorem ft{u:Unit}(h:setOw i xs C=some (u,o)):∃b ys,C[i]?=some (.ow b ys)/\o=C.set i (.ow b xs):=by unfold setOw at h;grind
noncomputable def h_(i:Nat)(fs:M (List D)):M Fl:=do
 let _<- dC i
 let ds<- fs
 match ds with
 |[d]=>do
  let xs<- dC i
  let _<- lift (few xs.length)
  setOw i (xs++[d])
  pure .nx
 |_=>lift none
theorem iQ(i:Nat)(ha:DA X [a] fs)(hN:X.N[i]?=some x:=by rfl)(hv:oZ X.env.scope x:=by first | exact Or.inl rfl | exact Or.inr (Or.inl rfl) | exact Or.inr (Or.inr rfl))(hd:(x==("__debug__":Str))=false:=by decide)(aa:(x==("__classdict__":Str))=false:=by decide)
  (I:((backTo cpos (starEach [a] X.env)).all (λ x=> !x.1)&&(backToKw cpos (keywordEach [] X.env)).all (λ x=>x.1.isSome)
   &&decide (([a]:List Expr).length+([]:List Keyword).length+(if([]:List Keyword).isEmpty then 0 else 1)<30))=true:=by rfl)
  (o:(apos.endLine==cpos.line)=true:=by rfl)(hs:starEach [a] X.env=[(false,eval a X.env)]:=by rfl)(ab:swapsWith (.Call (.Attribute (.Name x p) "append" apos) [a] [] cpos) none pos.line X.env=pure false:=by rfl):
  lQ X (.Expr (.Call (.Attribute (.Name x p) "append" apos) [a] [] cpos) pos) (h_ i fs):=
 iq (tB (yC PySem.F.plainAttrs_list PySem.F.slot_list_append PySem.F.type_list_append l5 (cY hN hv hd aa) ha rfl I o hs rfl) ab) λ E σ H ⟨c,δ,S,T,fl,ai,s,e,k⟩=>by
  obtain⟨aj,ak,e0,e⟩:=bind_some e;obtain⟨⟨b0,ae⟩,rfl⟩:=bU e0;obtain⟨q,af,eq,hq,_⟩:=s.own ae;obtain⟨ds,ag,e1,e⟩:=bind_some e;refine⟨_,eq,.inl ⟨rfl,af,.of hq⟩,c,δ,S,T,ds,ag,s,e1,λ vs H1 l s1=>?_⟩;split at e;. obtain⟨xs,ao,e2,e⟩:=bind_some e;obtain⟨⟨b1,C⟩,rfl⟩:=bU e2;obtain⟨_,aq,e3,e⟩:=bind_some e;obtain⟨e4,rfl⟩:=ba e3;obtain⟨_,ar,e5,e⟩:=bind_some e;obtain⟨rfl,rfl⟩:=aV e;obtain⟨b2,ys,J,rfl⟩:=ft e5;rw[C]at J;cases J;obtain⟨q',ws,U,ah,hx⟩:=s1.own C;rw[eq]at U;cases U;obtain⟨v,rfl,r⟩:=wy (s1.st.left l);refine⟨q,ws,v,rfl,rfl,ah,by rw[hx.length];exact(fV e4).2,k _ _ ?_⟩;exact(s1.drop l).mut C eq (hx.append (.cons r .nil))
  .cases e
noncomputable def Cf(i:Nat)(fs:M (List D)):M D:=do
 let _<- dC i
 let ds<- fs
 match ds with
 |[.int j]=>do
  let xs<- dC i
  let d<- lift (if 0<=j/\j<100000 then xs[j.toNat]? else none)
  setOw i (xs.eraseIdx j.toNat)
  pure d
 |_=>lift none
theorem Rs.erase:∀{ds:List D}{vs:List V}(i:Nat),Rs H ds vs->Rs H (ds.eraseIdx i) (vs.eraseIdx i)
 |[],vs,i,h=>by rw[h.inv0];simpa using Rs.nil
 |d::ds,vs,0,h=>by obtain⟨v,r,e,_,o⟩:=h.inv;simp_all
 |d::ds,vs,i+1,h=>by obtain⟨v,r,e,C,o⟩:=h.inv;subst e;exact .cons C (Rs.erase i o)
theorem yQ(i:Nat)(ha:DA X [a] fs)(hN:X.N[i]?=some x:=by rfl)(hv:oZ X.env.scope x:=by first|exact Or.inl rfl|exact Or.inr (Or.inl rfl)|exact Or.inr (Or.inr rfl))(hd:(x==("__debug__":Str))=false:=by decide)(aa:(x==("__classdict__":Str))=false:=by decide)
  (I:((backTo cpos (starEach [a] X.env)).all (λ x=> !x.1)&&(backToKw cpos (keywordEach [] X.env)).all (λ x=>x.1.isSome)
   &&decide (([a]:List Expr).length+([]:List Keyword).length+(if([]:List Keyword).isEmpty then 0 else 1)<30))=true:=by rfl)
  (o:(apos.endLine==cpos.line)=true:=by rfl)(hs:starEach [a] X.env=[(false,eval a X.env)]:=by rfl):
  DE X (.Call (.Attribute (.Name x p) "pop" apos) [a] [] cpos) (Cf i fs):=
 cB (yC PySem.F.plainAttrs_list PySem.F.slot_list_pop PySem.F.type_list_pop xT (cY hN hv hd aa) ha rfl I o hs rfl) λ σ H Q ⟨c,δ,S,T,fl,ah,s,e,k⟩=>by
  obtain⟨ai,aj,e0,e⟩:=bind_some e;obtain⟨⟨b0,ab⟩,rfl⟩:=bU e0;obtain⟨q,ae,eq,hq,_⟩:=s.own ab;obtain⟨ds,af,e1,e⟩:=bind_some e;refine⟨_,eq,.inl ⟨rfl,ae,.of hq⟩,c,δ,S,T,ds,af,s,e1,λ vs H1 l s1=>?_⟩;split at e
  .rename_i j;obtain⟨xs,ak,e2,e⟩:=bind_some e;obtain⟨⟨b1,C⟩,rfl⟩:=bU e2;obtain⟨d,ao,e3,e⟩:=bind_some e;obtain⟨e4,rfl⟩:=ba e3;obtain⟨_,aq,e5,e⟩:=bind_some e;obtain⟨rfl,rfl⟩:=aV e;obtain⟨b2,ys,J,rfl⟩:=ft e5;rw[C]at J;cases J;obtain⟨q',ws,U,ag,hx⟩:=s1.own C;rw[eq]at U;cases U;obtain⟨v,rfl,r⟩:=wy (s1.st.left l);cases r.int;split at e4
   .obtain⟨y,hy,ry⟩:=hx.get e4;have ar:j.toNat<ws.length:=(List.getElem?_eq_some_iff.mp hy).1;refine⟨q,ws,j,j.toNat,y,rfl,rfl,ag,by omega,by omega,?_,hy,k _ _ ?_⟩
    .unfold seqIndex?;have h1: ¬j<0:=by omega
     simp only[h1,if_false];rw[if_pos];simp;omega
    .have s2:=s1.drop l;exact(s2.stk (.cons ry s2.st)).mut C eq (hx.erase j.toNat)
   simp_all
  .cases e
noncomputable def sF(i:Nat)(fa:M D)(k:Int):M Fl:=do
 let d<- fa
 let xs<- dC i
 let j<- lift (wu xs.length k)
 setOw i (xs.set j d)
 pure .nx
theorem Rs.set(r:R H d v):∀{ds:List D}{vs:List V}(i:Nat),Rs H ds vs->Rs H (ds.set i d) (vs.set i v)
 |[],vs,i,h=>by rw[h.inv0];rfl
 |d::ds,vs,0,h=>by obtain⟨v,q,e,_,o⟩:=h.inv;subst e;exact .cons r o
 |d::ds,vs,i+1,h=>by obtain⟨v,q,e,C,o⟩:=h.inv;subst e;exact .cons C (Rs.set r i o)
theorem zX(i:Nat){k:Int}{j:Nat}{pc o:Pos}(he:DE X e fa)(hN:X.N[i]?=some x:=by rfl)(hv:oZ X.env.scope x:=by first | exact Or.inl rfl | exact Or.inr (Or.inl rfl) | exact Or.inr (Or.inr rfl))(hd:(x==("__debug__":Str))=false:=by decide)(U:(x==("__classdict__":Str))=false:=by decide)
  (ha:∀v,assign (.Subscript (.Name x p) (.Constant (.int k) j pc) o) X.env v=(do
   let J<- holding [v] (eval (.Name x p) X.env)
   let iv<- holding [v,J] (eval (.Constant (.int k) j pc) X.env)
   standAt o
   holding [v,J,iv] (setItem J iv v)
   release [v,J,iv] []):=by intro _;rfl)
  (hs:swapsWithSole [.Subscript (.Name x p) (.Constant (.int k) j pc) o] e pos.line X.env=pure false:=by rfl)(hw:swappedStores [.Subscript (.Name x p) (.Constant (.int k) j pc) o] e X.env=pure none:=by rfl)
  (h1:(assignEach [.Subscript (.Name x p) (.Constant (.int k) j pc) o] X.env).map (·.2)=[assign (.Subscript (.Name x p) (.Constant (.int k) j pc) o) X.env]:=by rfl):
  lQ X (.Assign [.Subscript (.Name x p) (.Constant (.int k) j pc) o] e pos) (sF i fa k):=
 iq (xG he (FU (cY hN hv hd U) mL set_list ha) hs hw h1) λ E σ H ⟨c,δ,S,T,fl,ab,s,e,kk⟩=>by obtain⟨d,aa,e1,e⟩:=bind_some e;obtain⟨xs,ae,e2,e⟩:=bind_some e;obtain⟨⟨b1,C⟩,rfl⟩:=bU e2;obtain⟨jj,af,e3,e⟩:=bind_some e;obtain⟨e4,rfl⟩:=ba e3;obtain⟨_,ag,e5,e⟩:=bind_some e;obtain⟨rfl,rfl⟩:=aV e;obtain⟨b2,ys,I,rfl⟩:=ft e5;rw[C]at I;cases I;refine⟨c,δ,S,T,d,aa,s,e1,λ v H1 s1=>?_⟩;obtain⟨q,ws,eq,hq,hx⟩:=s1.own C;refine⟨_,eq,q,ws,k,jj,rfl,rfl,hq,by rw[hx.length];omega,kk _ _ ?_⟩;exact s1.pop.mut C eq (hx.set s1.st.head jj)
noncomputable def CK(i:Nat)(fb:M D):M D:=do
 let _<- dC i
 let y<- fb
 let xs<- dC i
 lift (jk (.lst xs) y)
theorem kb(i:Nat){px:Pos}(hb:DE X b fb)(hN:X.N[i]?=some x:=by rfl)(hv:oZ X.env.scope x:=by first | exact Or.inl rfl | exact Or.inr (Or.inl rfl) | exact Or.inr (Or.inr rfl))(hd:(x==("__debug__":Str))=false:=by decide)(C:(x==("__classdict__":Str))=false:=by decide)
  (hs:iB b:=by exact fun _ _=>rfl):DE X (.Subscript (.Name x px) b pos) (CK i fb):=cB (tu sX (cY hN hv hd C) hb hs) λ σ H Q ⟨c,δ,S,T,fl,ab,s,e,k⟩=>by obtain⟨ae,af,e0,e⟩:=bind_some e;obtain⟨⟨b0,I⟩,rfl⟩:=bU e0;obtain⟨q,ag,eq,hq,_⟩:=s.own I;obtain⟨y,J,e1,e⟩:=bind_some e;obtain⟨xs,ah,e2,e⟩:=bind_some e;obtain⟨⟨b1,U⟩,rfl⟩:=bU e2;obtain⟨e3,rfl⟩:=ba e;refine⟨_,eq,c,δ,S,T,y,J,s,e1,λ u H2 s2=>?_⟩;obtain⟨q',ws,o,aa,hx⟩:=s2.own U;rw[eq]at o;cases o;cases y with
 |int j=>have e':jM xs j=some fl:=e3;obtain⟨z,e4,r⟩:=rM hx e';exact⟨q,ws,j,z,rfl,s2.st.head.int,.of aa,e4,k _ _ (s2.stk (.cons r s2.st.tail))⟩
 |_=>cases e3
noncomputable def qd(i:Nat):M D:=do
 let xs<- dC i
 pure (.int xs.length)
theorem jV(i:Nat){px:Pos}(hm:X.mg "len"=none)(I:Gl X "len":=by rfl)(J:X.N[i]?=some x:=by rfl)(U:oZ X.env.scope x:=by first | exact Or.inl rfl | exact Or.inr (Or.inl rfl) | exact Or.inr (Or.inr rfl))(hd:(x==("__debug__":Str))=false:=by decide)(o:(x==("__classdict__":Str))=false:=by decide):
  DE X (.Call (.Name "len" p) [.Name x px] [] pos) (qd i):=cB (dr iw I hm PySem.boot_len (bh (cY J U hd o) cb) (by decide) (by decide) rfl rfl) λ σ H Q ⟨c,δ,S,T,fl,aa,s,e,k⟩=>by obtain⟨xs,ab,e1,e⟩:=bind_some e;obtain⟨rfl,rfl⟩:=aV e;obtain⟨⟨b1,C⟩,rfl⟩:=bU e1;obtain⟨q,ws,eq,hq,hx⟩:=s.own C;refine⟨_,eq,q,ws,rfl,.inl (.of hq),k _ _ (s.stk (.cons ?_ s.st))⟩;rw[hx.length];rfl
theorem cM(hm:X.mg "len"=none)(o:DA X [a] fs)(C:Gl X "len":=by rfl)(he:starEach [a] X.env=[(false,eval a X.env)]:=by rfl):DE X (.Call (.Name "len" p) [a] [] pos) (mC fk fs):=
 hX iw F7 C hm PySem.boot_len o (by decide) (by rfl) he rfl
theorem vp:∀{bs:List Bool}{its:List Value}{i:Nat}{v:Value},Vals (bs.map V.bl) its->its[i]?=some v->∃b,bs[i]?=some b/\v= .bool b:= λ{bs its i v} h e=>by
 have o:=h.length;rw[List.length_map]at o;have I:i<bs.length:=by rw[o];exact(List.getElem?_eq_some_iff.mp e).1
 obtain⟨u,C,r⟩:=h.get (i:=i) (x:=V.bl bs[i]) (by grind);rw[e]at C;cases C;exact⟨bs[i],List.getElem?_eq_getElem I,r⟩
theorem sE(bs:List Bool):((List.range bs.length).all λ i=>(bs[i]?).getD true)=bs.all id:=by
 rw[Bool.eq_iff_iff,List.all_eq_true,List.all_eq_true];constructor;. intro h b I;obtain⟨i,C,rfl⟩:=List.getElem_of_mem I;simpa[List.getElem?_eq_getElem C]using h i (List.mem_range.mpr C)
 .intro h i C;have o:=List.mem_range.mp C;simpa[List.getElem?_eq_getElem o]using h _ (List.getElem_mem o)
theorem wK(hc:X.calm=true):cT X (.builtin "all") (λ xs H Q=>∃(p:Addr) (bs:List Bool),xs=[.ref p]/\fG X.K H p (bs.map V.bl)/\Q (.bl (bs.all id)) H):=by
 intro pins s σ H xs us Q I r h;obtain⟨p,bs,rfl,hq,q⟩:=h;obtain⟨u,rfl,rx⟩:=r.one;cases rx;obtain⟨its,J,pl,hz⟩:=I.list hq;have C:p<s.heap.objs.size:=by obtain⟨_,e,_⟩:=pl.isList;exact Heap.lt_size e
 refine call_all_walk (wpAny_pyIter_list pl.isList ?_);refine⟨s.heap.objs.size,[s.heap.objs.size,p],[s.heap.objs.size],its.toArray.size,_,_,λ i=>(bs[i]?).getD true,rfl,Walks.list (A:=X.A.in1) (I.ok.hd hc) _ p (Nat.ne_of_lt C) its.toArray,
  ⟨⟨_,Heap.get?_push_size _ rfl,rfl,rfl⟩,pl.isList.push _⟩,λ i v s' Q' E' hP U=>?_,λ h' tk hk=>?_⟩;. obtain⟨b,e,rfl⟩:=vp J (by simpa using hP);simp[e]at U;exact wpAny_truthy_bool U
 .have e:((List.range its.toArray.size).all λ i=>(bs[i]?).getD true)=bs.all id:=by rw[List.size_toArray,<- J.length,List.length_map];exact sE bs
  rw[e];exact⟨.bl _,H,I.kept λ b o eb=>hk b o (λ hm=>absurd (Heap.lt_size eb) (by simp_all)) (Heap.get?_push_of_some _ eb),rfl,q⟩
noncomputable def boolsOf:List D->Option (List Bool)
 |[]=>some []
 | .bl b::r=>(boolsOf r).map (b:: .)
 |_=>none
theorem pA:∀{ds:List D}{vs:List V}{bs:List Bool},Rs H ds vs->boolsOf ds=some bs->vs=bs.map V.bl
 |[],vs,bs,h,e=>by cases e;exact h.inv0
 |d::ds,vs,bs,h,e=>by obtain⟨v,r,ev,o,C⟩:=h.inv;cases d with
  |bl b=>unfold boolsOf at e;cases q:boolsOf ds with
   |none=>simp_all
   |some I=>rw[q]at e;cases e;rw[ev,o.bl,pA C q];rfl
  |_=>cases e
noncomputable def oE:List D->Option D
 |[.lst ds]=>(boolsOf ds).map λ bs=> .bl (bs.all id)
 |_=>none
theorem yU(g:List Bool->Bool)(f:List D->Option D)(hf:∀ds d,f ds=some d->∃es bs,ds=[.lst es]/\boolsOf es=some bs/\d= .bl (g bs)):
  ju (λ xs H Q=>∃(p:Addr) (bs:List Bool),xs=[.ref p]/\fG K H p (bs.map V.bl)/\Q (.bl (g bs)) H) f:= λ c U S σ T H ds vs d Q l s e k=>by obtain⟨es,bs,rfl,o,rfl⟩:=hf _ _ e;have h:=s.st.left l;have C:=s.st.right l;obtain⟨v,rfl,r⟩:=wy h;obtain⟨p,ws,rfl,I,J⟩:=r.lst;have:=pA J o;subst this;exact⟨p,bs,rfl,.inl (Rd.mono br I),k _ _ (s.stk (.cons .mkB C))⟩
theorem vY(ds:List D)(d:D)(h:oE ds=some d):∃es bs,ds=[.lst es]/\boolsOf es=some bs/\d= .bl (bs.all id):=by
 unfold oE at h;split at h;. rename_i es;cases q:boolsOf es with
  |none=>rw[q]at h;cases h
  |some bs=>rw[q]at h;cases h;exact⟨es,bs,rfl,q,rfl⟩
 grind
theorem sg(hm:X.mg "all"=none)(o:DA X [a] fs)(C:Gl X "all":=by rfl)(I:X.calm=true:=by rfl)(he:starEach [a] X.env=[(false,eval a X.env)]:=by rfl):DE X (.Call (.Name "all" p) [a] [] pos) (mC oE fs):=
 hX (wK I) (yU _ oE vY) C hm PyProof.Rows.boot_all o (by decide) (by rfl) he rfl
theorem l_(I:cT X (.type T) r)(hd:ju r f)(J:Gl X x)(hm:X.mg x=none)(U:bootBuiltins x=some (.type T))(ha:DA X (a::es) fs)(hn:x≠"__name__":=by decide)(o:(x==("__debug__":Str))=false:=by decide)
  (he:starEach (a::es) X.env=(false,eval a X.env)::starEach es X.env:=by rfl)(C:(backTo pos (starEach es X.env)).any (·.1)=false:=by rfl):DE X (.Call (.Name x p) (a::es) [] pos) (mC f fs):=
 cB (eC I J hm U ha hn o he C) (D7 hd)
theorem vP(I:cT X (.type T) r)(hd:yn r f)(J:Gl X x)(hm:X.mg x=none)(U:bootBuiltins x=some (.type T))(ha:DA X (a::es) fs)(hn:x≠"__name__":=by decide)(o:(x==("__debug__":Str))=false:=by decide)
  (he:starEach (a::es) X.env=(false,eval a X.env)::starEach es X.env:=by rfl)(C:(backTo pos (starEach es X.env)).any (·.1)=false:=by rfl):DF X (.Call (.Name x p) (a::es) [] pos) (mC f fs):=
 cB (eC I J hm U ha hn o he C) (EK hd)
noncomputable def eN:D->Option (List D)
 | .tup ds=>some ds
 | .lst ds=>some ds
 |_=>none
noncomputable def d7:List D->Option D
 |[x]=>(eN x).map .tup
 |_=>none
theorem y6:ju (λ xs H Q=>∃p ys,xs=[.ref p]/\((fG K H p ys/\∀l,H l=none->Q (.ref l) (upd H l (.tup ys)))\/(gx K H p ys/\Q (.ref p) H))) d7:= λ c U S σ T H ds vs d Q l s e k=>by
 unfold d7 at e;split at e;. rename_i x;have h:=s.st.left l;have I:=s.st.right l;obtain⟨v,rfl,r⟩:=wy h;cases x with
  |tup es=>cases e;obtain⟨p,ws,rfl,o,C⟩:=r.tup;exact⟨p,ws,rfl,.inr ⟨.of (br _ _ o),k _ _ (s.stk (.cons (.mkT o C) I))⟩⟩
  |lst es=>cases e;obtain⟨p,ws,rfl,o,C⟩:=r.lst;exact⟨p,ws,rfl,.inl ⟨.inl (Rd.mono br o),λ q J=>k _ _ ((s.stk (C.append I)).newTup C.length J)⟩⟩
  |_=>cases e
 grind
theorem bK(hm:X.mg "tuple"=none)(o:DA X [a] fs)(C:Gl X "tuple":=by rfl)(he:starEach [a] X.env=[(false,eval a X.env)]:=by rfl):DE X (.Call (.Name "tuple" p) [a] [] pos) (mC d7 fs):=
 l_ lH y6 C hm (by rfl) o (by decide) (by rfl) he rfl
noncomputable def dList:List D->Option (List D)
 |[x]=>eN x
 |_=>none
theorem Cq:yn (λ xs H Q=>∃p ys,xs=[.ref p]/\(fG K H p ys\/gx K H p ys)/\∀l,H l=none->Q (.ref l) (upd H l (.lst ys))) dList:= λ c δ S σ T H ds vs d Q l s e k=>by
 unfold dList at e;split at e;. rename_i x;have h:=s.st.left l;have U:=s.st.right l;obtain⟨v,rfl,r⟩:=wy h;cases x with
  |tup es=>cases e;obtain⟨p,ws,rfl,I,o⟩:=r.tup;refine⟨p,ws,rfl,.inr (.of (br _ _ I)),λ q C=>?_⟩;have s1:=s.stk (o.append U);obtain⟨f1,f2,J⟩:=s1.fresh C;exact k q ws _ o.length (s1.hide C) f1 f2 J
  |lst es=>cases e;obtain⟨p,ws,rfl,I,o⟩:=r.lst;refine⟨p,ws,rfl,.inl (.inl (Rd.mono br I)),λ q C=>?_⟩;have s1:=s.stk (o.append U);obtain⟨f1,f2,J⟩:=s1.fresh C;exact k q ws _ o.length (s1.hide C) f1 f2 J
  |_=>cases e
 grind
theorem B8 (hm:X.mg "list" = none) (ha:DA X [a] fs) (hg:Gl X "list":=by rfl) (he:starEach [a] X.env=[(false,eval a X.env)]:=by rfl):DF X (.Call (.Name "list" p) [a] [] pos) (mC dList fs) :=
 vP nF Cq hg hm (by rfl) ha (by decide) (by rfl) he rfl
noncomputable def flat:D->Option V
 | .non=>some .non
 | .bl b=>some (.bl b)
 | .int i=>some (.int i)
 | .str x=>some (.str x)
 |_=>none
theorem d5(r:R H d v)(e:flat d=some u):v=u/\gm u=true:=by cases d with
 |non=>cases e;exact⟨r.non,rfl⟩
 |bl b=>cases e;exact⟨r.bl,rfl⟩
 |int b=>cases e;exact⟨r.int,rfl⟩
 |str b=>cases e;exact⟨r.str,rfl⟩
 |_=>cases e
noncomputable def kZ:List D->Option (List V)
 |[]=>some []
 |d::ds=>match flat d,kZ ds with
  |some v,some vs=>some (v::vs)
  |_,_=>none
theorem kO:∀{ds:List D}{vs us:List V},Rs H ds vs->kZ ds=some us->vs=us/\us.all gm=true
 |[],vs,us,h,e=>by cases e;exact⟨h.inv0,rfl⟩
 |d::ds,vs,us,h,e=>by
  obtain⟨v,r,ev,o,C⟩:=h.inv;unfold kZ at e;split at e;. rename_i w ws I J;cases e;obtain⟨a1,a2⟩:=d5 o I;obtain⟨b1,U⟩:=kO C J;refine⟨by rw[ev,a1,b1],?_⟩;rw[List.all_cons,a2,U];rfl
  grind
noncomputable def DV(neg:Bool)(x y:D):Option D:=match flat x,eN y with
 |some v,some ds=>(kZ ds).map λ vs=> .bl (if neg then !G7 v vs else G7 v vs)
 |_,_=>none
theorem w9:qR (J9 K neg) (DV neg):= λ c δ S σ T H x y v u d Q s e k=>by
 unfold DV at e;split at e;. rename_i w ds U C;cases o:kZ ds with
  |none=>rw[o]at e;cases e
  |some vs=>rw[o]at e;cases e;obtain⟨rfl,f1⟩:=d5 s.st.tail.head U;cases y with
   |tup es=>cases C;obtain⟨p,ws,rfl,I,J⟩:=s.st.head.tup;obtain⟨rfl,f2⟩:=kO J o;exact⟨p,ws,rfl,.inr (.of (br _ _ I)),f1,f2,k _ _ (s.stk (.cons .mkB s.st.tail.tail))⟩
   |lst es=>cases C;obtain⟨p,ws,rfl,I,J⟩:=s.st.head.lst;obtain⟨rfl,f2⟩:=kO J o;exact⟨p,ws,rfl,.inl (.inl (Rd.mono br I)),f1,f2,k _ _ (s.stk (.cons .mkB s.st.tail.tail))⟩
   |_=>cases C
 grind
theorem zR(o:DE X a fa)(C:DE X b fb)(hm:behindInMarks .In b=false:=by rfl):DT X (.Compare a [.In] [b] pos) (m2 (DV false) fa fb >>= lB):=gk uV w9 o C hm
theorem o5(o:DE X a fa)(C:DE X b fb)(hm:behindInMarks .NotIn b=false:=by rfl):DT X (.Compare a [.NotIn] [b] pos) (m2 (DV true) fa fb >>= lB):=gk ot w9 o C hm
noncomputable def dA(neg:Bool)(x y:D):Option D:=match flat x,flat y with
 |some v,some u=>if gZ v u=true then some (.bl (if neg then !decide (v=u)else decide (v=u)))else none
 |_,_=>none
theorem oD:qR J3 (dA false):= λ c I S σ T H x y v u d Q s e k=>by
 unfold dA at e;split at e
 .rename_i w z o C;split at e
  .rename_i hs;cases e;obtain⟨rfl,_⟩:=d5 s.st.tail.head o;obtain⟨rfl,_⟩:=d5 s.st.head C;exact⟨hs,k _ _ (s.stk (.cons .mkB s.st.tail.tail))⟩
  .cases e
 grind
theorem uA:qR Fj (dA true):= λ c I S σ T H x y v u d Q s e k=>by
 unfold dA at e;split at e
 .rename_i w z o C;split at e
  .rename_i hs;cases e;obtain⟨rfl,_⟩:=d5 s.st.tail.head o;obtain⟨rfl,_⟩:=d5 s.st.head C;exact⟨hs,k _ _ (s.stk (.cons .mkB s.st.tail.tail))⟩
  .cases e
 grind
theorem ny(o:DE X a fa)(C:DE X b fb):DE X (.Compare a [.Eq] [b] pos) (m2 (dA false) fa fb):=yc wY oD o C
theorem fY(o:DE X a fa)(C:DE X b fb):DT X (.Compare a [.Eq] [b] pos) (m2 (dA false) fa fb >>= lB):=gk wY oD o C
theorem rj(o:DE X a fa)(C:DE X b fb):DT X (.Compare a [.NotEq] [b] pos) (m2 (dA true) fa fb >>= lB):=gk yM uA o C
end
section
variable {X:Cx} {a b e:Expr} {fa fb:M D} {fs:M (List D)} {pos p:Pos} {rest:List Expr} {x:Str}
noncomputable def pZ:List D->Option D
 |[.int i,.int j]=>some (.int (if j<i then j else i))
 |_=>none
noncomputable def wk:List D->Option D
 |[.int i,.int j]=>some (.int (if j>i then j else i))
 |_=>none
theorem EB(g:Int->Int->Int)(f:List D->Option D)(hf:∀ds d,f ds=some d->∃i j,ds=[.int i,.int j]/\d= .int (g i j)):ju (λ xs H Q=>∃i j,xs=[.int i,.int j]/\Q (.int (g i j)) H) f:= λ c I S σ T H ds vs d Q l s e k=>by obtain⟨i,j,rfl,rfl⟩:=hf _ _ e;obtain⟨v,u,rfl,o,C⟩:=Jj (s.st.left l);cases o.int;cases C.int;exact⟨i,j,rfl,k _ _ (s.stk (.cons .mkI (s.st.right l)))⟩
theorem uY(ds:List D)(d:D)(h:pZ ds=some d):∃i j,ds=[.int i,.int j]/\d= .int (if j<i then j else i):=by unfold pZ at h;grind
theorem uW(ds:List D)(d:D)(h:wk ds=some d):∃i j,ds=[.int i,.int j]/\d= .int (if j>i then j else i):=by unfold wk at h;grind
theorem oz (hm:X.mg "min" = none) (ha:DA X [a,b] fs) (hg:Gl X "min":=by rfl) (hc:X.calm=true:=by rfl) (he:starEach [a,b] X.env=(false,eval a X.env) :: starEach [b] X.env:=by rfl) (hp:(backTo pos (starEach [b] X.env)).any (·.1)=false:=by rfl):DE X (.Call (.Name "min" p) [a,b] [] pos) (mC pZ fs) :=
 hX (vX hc) (EB _ pZ uY) hg hm (by rfl) ha (by decide) (by rfl) he hp
theorem yH (hm:X.mg "max" = none) (ha:DA X [a,b] fs) (hg:Gl X "max":=by rfl) (hc:X.calm=true:=by rfl) (he:starEach [a,b] X.env=(false,eval a X.env) :: starEach [b] X.env:=by rfl) (hp:(backTo pos (starEach [b] X.env)).any (·.1)=false:=by rfl):DE X (.Call (.Name "max" p) [a,b] [] pos) (mC wk fs) :=
 hX (v8 hc) (EB _ wk uW) hg hm (by rfl) ha (by decide) (by rfl) he hp
noncomputable def J_(fa fb:M D):M D:=do
 let v<- fa
 let t<- lift (jc v)
 if t=true then pure v else fb
theorem EZ(ha:DE X a fa)(hb:DE X (.BoolOp .Or (b::rest) pos) fb):DE X (.BoolOp .Or (a::b::rest) pos) (J_ fa fb):= λ pins s σ H Q I ⟨c,δ,S,T,d,J,sl,e,k⟩=>by obtain⟨v,o,e1,e⟩:=bind_some e;obtain⟨t,aa,e2,e⟩:=bind_some e;obtain⟨e3,rfl⟩:=ba e2;refine PyProof.Rows.BoolOp_or (cp (ha pins s σ H (λ y H1=>Sl c o (v::S) σ (y::T) H1) I ⟨c,δ,S,T,v,o,sl,e1,λ y H1 s1=>s1⟩) λ u s1 ⟨y,H1,I1,r1,U⟩=>?_);refine cp (wO pins s1 σ H1 y u (λ k' C=>k'=t/\C=H1) I1 r1 ⟨t,uG br U.st.head e3,rfl,rfl⟩) λ k' s2 ⟨C,I2,ek,eH⟩=>?_;subst ek eH;cases k' with
 |true=>obtain⟨rfl,rfl⟩:=aV e;exact⟨y,C,I2,r1,k _ _ U⟩
 |false=>exact hb pins s2 σ C Q I2 ⟨c,o,S,T,d,J,U.pop,e,k⟩
noncomputable def Ew:D->D->Option D
 | .tup (x::xs),.tup ys=>if xs.length+1+ys.length<=100000 then some (.tup ((x::xs)++ys))else none
 |_,_=>none
theorem w_:qR (zT K) Ew:= λ c δ S σ T H x y v u d Q s e k=>by
 unfold Ew at e;split at e
 .rename_i x xs ys;split at e
  .cases e;obtain⟨p,ws,rfl,J,C⟩:=s.st.tail.head.tup;obtain⟨q,zs,rfl,U,o⟩:=s.st.head.tup;have hl:100000<sizeLine:=by decide
   have I:=C.length;have l2:=o.length;rw[List.length_cons]at I;refine⟨p,q,ws,zs,rfl,rfl,.of (br _ _ J),.of (br _ _ U),λ z=>(by rw[z]at I;simp at I),by omega,λ z=>?_,λ z r hr=>?_⟩;. rw[z]at o;cases ys with
    |nil=>rw[List.append_nil]at k;exact k _ _ (s.stk (.cons s.st.tail.head s.st.tail.tail))
    |cons y ys=>obtain⟨_,_,e,_⟩:=o.inv;cases e
   .have s1:=s.stk ((C.append o).append s.st.tail.tail);exact k _ _ (s1.newTup (by rw[List.length_append,List.length_append,o.length,C.length]) hr)
  grind
 grind
noncomputable def dz:Nat->D->D->Option Bool
 |0,_,_=>none
 |n+1,.tup xs,.tup ys=>(go n xs ys).map λ b=>b&&xs.length==ys.length
 |n+1,.lst xs,.lst ys=>if xs.length=ys.length then go n xs ys else some false
 |_+1,x,y=>match flat x,flat y with
  |some v,some u=>some (t9 v u)
  |_,_=>none
where
 go(n:Nat):List D->List D->Option Bool
  |x::xs,y::ys=>match dz n x y,go n xs ys with
   |some a,some b=>some (a&&b)
   |_,_=>none
  |_,_=>some true
theorem tm:∀{a b:List (Int×Int)},(a.map λ p=>((.inl p.1,.int p.2):Key×V))=b.map (λ p=>(.inl p.1,.int p.2))->a=b
 |[],[],_=>rfl
 |[],_::_,h=>by cases h
 |_::_,[],h=>by cases h
 |(x,y)::a,(z,w)::b,h=>by simp at h;rw[tm h.2,h.1.1,h.1.2]
theorem ug:∀{a b:List ((Int×Int)×Int)},(a.map λ p=>(([.inl p.1.1,.inl p.1.2],.int p.2):List Key×V))=b.map (λ p=>([.inl p.1.1,.inl p.1.2],.int p.2))->a=b
 |[],[],_=>rfl
 |[],_::_,h=>by cases h
 |_::_,[],h=>by cases h
 |((x,o),y)::a,((z,C),w)::b,h=>by simp at h;rw[ug h.2,h.1.1.1,h.1.1.2,h.1.2]
mutual
theorem R.inj {H:Hp}:∀(x y:D) (v:V),R H x v->R H y v->x=y
 | .non,y,v,h,g=>by
  cases h.non
  cases y with
  | non=>rfl
  | bl b=>cases g.bl
  | int b=>cases g.int
  | str b=>cases g.str
  | tup b=>obtain ⟨_,_,e,_⟩:=g.tup;cases e
  | lst b=>obtain ⟨_,_,e,_⟩:=g.lst;cases e
  | dct=>obtain ⟨_,e,_⟩:=g.dct;cases e
  | dic _=>obtain ⟨_,e,_⟩:=g.dic;cases e
  | dip _=>obtain ⟨_,e,_⟩:=g.dip;cases e
 | .bl x,y,v,h,g=>by
  cases h.bl
  cases y with
  | non=>cases g.non
  | bl b=>cases g.bl;rfl
  | int b=>cases g.int
  | str b=>cases g.str
  | tup b=>obtain ⟨_,_,e,_⟩:=g.tup;cases e
  | lst b=>obtain ⟨_,_,e,_⟩:=g.lst;cases e
  | dct=>obtain ⟨_,e,_⟩:=g.dct;cases e
  | dic _=>obtain ⟨_,e,_⟩:=g.dic;cases e
  | dip _=>obtain ⟨_,e,_⟩:=g.dip;cases e
 | .int x,y,v,h,g=>by
  cases h.int
  cases y with
  | non=>cases g.non
  | bl b=>cases g.bl
  | int b=>cases g.int;rfl
  | str b=>cases g.str
  | tup b=>obtain ⟨_,_,e,_⟩:=g.tup;cases e
  | lst b=>obtain ⟨_,_,e,_⟩:=g.lst;cases e
  | dct=>obtain ⟨_,e,_⟩:=g.dct;cases e
  | dic _=>obtain ⟨_,e,_⟩:=g.dic;cases e
  | dip _=>obtain ⟨_,e,_⟩:=g.dip;cases e
 | .str x,y,v,h,g=>by
  cases h.str
  cases y with
  | non=>cases g.non
  | bl b=>cases g.bl
  | int b=>cases g.int
  | str b=>cases g.str;rfl
  | tup b=>obtain ⟨_,_,e,_⟩:=g.tup;cases e
  | lst b=>obtain ⟨_,_,e,_⟩:=g.lst;cases e
  | dct=>obtain ⟨_,e,_⟩:=g.dct;cases e
  | dic _=>obtain ⟨_,e,_⟩:=g.dic;cases e
  | dip _=>obtain ⟨_,e,_⟩:=g.dip;cases e
 | .tup xs,y,v,h,g=>by
  obtain ⟨a,vs,rfl,h1,h2⟩:=h.tup
  cases y with
  | non=>cases g.non
  | bl b=>cases g.bl
  | int b=>cases g.int
  | str b=>cases g.str
  | tup ys=>
   obtain ⟨a',vs',e,g1,g2⟩:=g.tup
   cases e
   rw [h1] at g1;cases g1
   rw [Rs.inj xs ys vs h2 g2]
  | lst ys=>
   obtain ⟨a',vs',e,g1,g2⟩:=g.lst
   cases e
   rcases g1 with g1 | ⟨o,g1⟩ <;> (rw [h1] at g1;cases g1)
  | dct=>
   obtain ⟨a',e,g1⟩:=g.dct
   cases e
   rw [h1] at g1;cases g1
  | dic _=>
   obtain ⟨a',e,g1⟩:=g.dic
   cases e
   rw [h1] at g1;cases g1
  | dip _=>
   obtain ⟨a',e,g1⟩:=g.dip
   cases e
   rw [h1] at g1;cases g1
 | .lst xs,y,v,h,g=>by
  obtain ⟨a,vs,rfl,h1,h2⟩:=h.lst
  cases y with
  | non=>cases g.non
  | bl b=>cases g.bl
  | int b=>cases g.int
  | str b=>cases g.str
  | tup ys=>
   obtain ⟨a',vs',e,g1,g2⟩:=g.tup
   cases e
   rcases h1 with h1 | ⟨o,h1⟩ <;> (rw [h1] at g1;cases g1)
  | lst ys=>
   obtain ⟨a',vs',e,g1,g2⟩:=g.lst
   cases e
   have:vs' = vs:= by
    rcases h1 with h1 | ⟨o,h1⟩ <;> rcases g1 with g1 | ⟨o',g1⟩ <;> (rw [h1] at g1;first | (cases g1;rfl) | cases g1)
   subst this
   rw [Rs.inj xs ys _ h2 g2]
  | dct=>
   obtain ⟨a',e,g1⟩:=g.dct
   cases e
   rcases h1 with h1 | ⟨o,h1⟩ <;> (rw [h1] at g1;cases g1)
  | dic _=>
   obtain ⟨a',e,g1⟩:=g.dic
   cases e
   rcases h1 with h1 | ⟨o,h1⟩ <;> (rw [h1] at g1;cases g1)
  | dip _=>
   obtain ⟨a',e,g1⟩:=g.dip
   cases e
   rcases h1 with h1 | ⟨o,h1⟩ <;> (rw [h1] at g1;cases g1)
 | .dct,y,v,h,g=>by
  obtain ⟨a,rfl,h1⟩:=h.dct
  cases y with
  | non=>cases g.non
  | bl b=>cases g.bl
  | int b=>cases g.int
  | str b=>cases g.str
  | tup ys=>
   obtain ⟨a',vs',e,g1,g2⟩:=g.tup
   cases e
   rw [h1] at g1;cases g1
  | lst ys=>
   obtain ⟨a',vs',e,g1,g2⟩:=g.lst
   cases e
   rcases g1 with g1 | ⟨o,g1⟩ <;> (rw [h1] at g1;cases g1)
  | dct=>rfl
  | dic _=>
   obtain ⟨a',e,g1⟩:=g.dic
   cases e
   rw [h1] at g1;cases g1
  | dip _=>
   obtain ⟨a',e,g1⟩:=g.dip
   cases e
   rw [h1] at g1;cases g1
 | .dic xs,y,v,h,g=>by
  obtain ⟨a,rfl,h1⟩:=h.dic
  cases y with
  | non=>cases g.non
  | bl b=>cases g.bl
  | int b=>cases g.int
  | str b=>cases g.str
  | tup ys=>
   obtain ⟨a',vs',e,g1,g2⟩:=g.tup
   cases e
   rw [h1] at g1;cases g1
  | lst ys=>
   obtain ⟨a',vs',e,g1,g2⟩:=g.lst
   cases e
   rcases g1 with g1 | ⟨o,g1⟩ <;> (rw [h1] at g1;cases g1)
  | dct=>
   obtain ⟨a',e,g1⟩:=g.dct
   cases e
   rw [h1] at g1;cases g1
  | dic ys=>
   obtain ⟨a',e,g1⟩:=g.dic
   cases e
   rw [h1] at g1
   rw [tm (HO.dK.inj (Option.some.inj g1))]
  | dip ys=>
   obtain ⟨a',e,g1⟩:=g.dip
   cases e
   rw [h1] at g1;cases g1
 | .dip xs,y,v,h,g=>by
  obtain ⟨a,rfl,h1⟩:=h.dip
  cases y with
  | non=>cases g.non
  | bl b=>cases g.bl
  | int b=>cases g.int
  | str b=>cases g.str
  | tup ys=>
   obtain ⟨a',vs',e,g1,g2⟩:=g.tup
   cases e
   rw [h1] at g1;cases g1
  | lst ys=>
   obtain ⟨a',vs',e,g1,g2⟩:=g.lst
   cases e
   rcases g1 with g1 | ⟨o,g1⟩ <;> (rw [h1] at g1;cases g1)
  | dct=>
   obtain ⟨a',e,g1⟩:=g.dct
   cases e
   rw [h1] at g1;cases g1
  | dic ys=>
   obtain ⟨a',e,g1⟩:=g.dic
   cases e
   rw [h1] at g1;cases g1
  | dip ys=>
   obtain ⟨a',e,g1⟩:=g.dip
   cases e
   rw [h1] at g1
   rw [ug (HO.dT.inj (Option.some.inj g1))]
theorem Rs.inj {H:Hp}:∀(xs ys:List D) (vs:List V),Rs H xs vs->Rs H ys vs->xs=ys
 | [],ys,vs,h,g=>by
  cases h.inv0
  cases ys with
  | nil=>rfl
  | cons y ys=>obtain ⟨_,_,e,_⟩:=g.inv;cases e
 | x :: xs,ys,vs,h,g=>by
  obtain ⟨v,r,rfl,h1,h2⟩:=h.inv
  cases ys with
  | nil=>cases g.inv0
  | cons y ys=>rw [R.inj x y v h1 g.head,Rs.inj xs ys r h2 g.tail]
end
theorem i9:∀{xs ys:List D}{b:Bool},dz.go n xs ys=some b->∃e:Nat->Bool,(∀(j:Nat) x y,xs[j]?=some x->ys[j]?=some y->dz n x y=some (e j))/\b=(List.range (min xs.length ys.length)).all e
 |[],ys,b,h=>by cases h;exact⟨λ _=>true,λ j x y o=>by simp at o,by simp⟩
 |x::xs,[],b,h=>by cases h;exact⟨λ _=>true,λ j x y o C=>by simp at C,by simp⟩
 |x::xs,y::ys,b,h=>by
  unfold dz.go at h;split at h
  .rename_i b1 U e1 I;cases h;obtain⟨e,he,J⟩:=i9 I;refine⟨λ j=>match j with|0=>b1|j+1=>e j,λ j x' y' o C=>?_,?_⟩;. grind
   .rw[List.length_cons,List.length_cons,Nat.add_min_add_right,List.range_succ_eq_map,List.all_cons,List.all_map,J];rfl
  grind
theorem ip(h:gm v=true):t9 v v=true:=by cases v with
 |non=>rfl
 |bl b=>cases b <;> rfl
 |int i=>exact beq_self_eq_true i
 |str x=>exact beq_self_eq_true x
 |_=>cases h
theorem zw:∀(n:Nat)(x:D)(b:Bool),dz n x x=some b->b=true:=by intro n;induction n with
 |zero=>intro x b h;simp[dz]at h
 |succ n I=>
  have go:∀(xs:List D)(b:Bool),dz.go n xs xs=some b->b=true:= λ xs b h=>by obtain⟨e,he,C⟩:=i9 h;rw[Nat.min_self]at C;subst C;rw[List.all_eq_true];intro j J;have o:=List.mem_range.mp J;exact I _ _ (he j _ _ (List.getElem?_eq_getElem o) (List.getElem?_eq_getElem o))
  intro x b h;cases x with
  |tup xs=>unfold dz at h;cases q:dz.go n xs xs with
   |none=>rw[q]at h;cases h
   |some U=>rw[q]at h;cases h;rw[go xs U q];simp
  |lst xs=>unfold dz at h;grind
  |non=>simp[dz,flat]at h;rw[<- h];exact ip rfl
  |bl q=>simp[dz,flat]at h;rw[<- h];exact ip rfl
  |int q=>simp[dz,flat]at h;rw[<- h];exact ip rfl
  |str q=>simp[dz,flat]at h;rw[<- h];exact ip rfl
  |dct=>simp[dz,flat]at h
  |dic _=>simp[dz,flat]at h
  |dip _=>simp[dz,flat]at h
open SeqAt in
theorem xt {pins:List (Addr × Obj)} {σ:St} {H Hh:Hp} {s:Shared} (I:Inv X pins σ H s) (m:∀b o,Hh b=some o->H b=some o):∀(n:Nat) (A:Around),A.units + n < cLine->∀(x y:D) (v w:V) (u z:Value) (b:Bool),R Hh x v->R Hh y w->RelV v u->RelV w z->dz n x y=some b ->
  EqAt A s u z b∧((∃xs,x=.tup xs ∨ x=.lst xs)->RcAt A s u z b):= by
 intro n
 induction n with
 | zero=>intro A _ x y v w u z b _ _ _ _ h;simp [dz] at h
 | succ n ih=>
  intro A hu x y v w u z b rx ry ru rz h
  have hu':A.units < cLine:=by omega
  have items:∀{xs ys:List D} {vs ws:List V} {is js:List Value} {e:Nat->Bool},Rs Hh xs vs->Rs Hh ys ws->Vals vs is->Vals ws js->(∀(j:Nat) x y,xs[j]? = some x->ys[j]? = some y->dz n x y=some (e j)) ->
    ∀j (h1:j < is.toArray.size) (h2:j < js.toArray.size),EqAt A.in1 s is.toArray[j] js.toArray[j] (e j):=fun {xs ys vs ws is js e} r1 r2 v1 v2 he j h1 h2=>by
   have l1:j < xs.length:=by rw [<- r1.length,v1.length];simpa using h1
   have l2:j < ys.length:=by rw [<- r2.length,v2.length];simpa using h2
   obtain ⟨v',e1,q1⟩:=r1.get (List.getElem?_eq_getElem l1)
   obtain ⟨w',e2,q2⟩:=r2.get (List.getElem?_eq_getElem l2)
   obtain ⟨u',e3,q3⟩:=v1.get e1
   obtain ⟨z',e4,q4⟩:=v2.get e2
   have:=(ih A.in1 (by show A.units + 1 + n < _;omega) _ _ v' w' u' z' (e j) q1 q2 q3 q4 (he j _ _ (List.getElem?_eq_getElem l1) (List.getElem?_eq_getElem l2))).1
   have a1:is.toArray[j]=u':= by
    have:=(List.getElem?_eq_some_iff.mp e3).2
    simpa using this
   have a2:js.toArray[j]=z':= by
    have:=(List.getElem?_eq_some_iff.mp e4).2
    simpa using this
   rw [a1,a2];exact this
  have refs:∀{l k:Addr},u=.ref l->z=.ref k->v=.ref l->w=.ref k->RcAt A s u z b->EqAt A s u z b:=fun {l k} eu ez ev ew rc=>by
   by_cases hlk:l=k
   .subst hlk
    rw [ev] at rx;rw [ew] at ry
    have:=R.inj x y _ rx ry
    subst this
    rw [zw _ _ _ h,eu,ez]
    exact EqAt.same _
   .rw [eu,ez] at rc ⊢;exact EqAt.of_refs hlk rc
  have flatCase:∀{p q:V},flat x=some p->flat y=some q->b=t9 p q->EqAt A s u z b:=fun {p q} e1 e2 eb=>by
   obtain ⟨rfl,f1⟩:=d5 rx e1
   obtain ⟨rfl,f2⟩:=d5 ry e2
   rw [eb];exact ze ru rz f1 f2
  have flatAll:(∀xs,x ≠ .tup xs)->(∀xs,x ≠ .lst xs)->∀p,flat x=some p->EqAt A s u z b:=fun _ _ p e1=>by
   cases y with
   | tup ys=>cases x <;> first | (simp [dz,flat] at h;done) | (cases e1;done)
   | lst ys=>cases x <;> first | (simp [dz,flat] at h;done) | (cases e1;done)
   | dct=>cases x <;> first | (simp [dz,flat] at h;done) | (cases e1;done)
   | dic _=>cases x <;> first | (simp [dz,flat] at h;done) | (cases e1;done)
   | dip _=>cases x <;> first | (simp [dz,flat] at h;done) | (cases e1;done)
   | non=>exact flatCase e1 rfl (by cases x <;> first | (cases e1;simpa [dz,flat] using h.symm) | cases e1)
   | bl q=>exact flatCase e1 rfl (by cases x <;> first | (cases e1;simpa [dz,flat] using h.symm) | cases e1)
   | int q=>exact flatCase e1 rfl (by cases x <;> first | (cases e1;simpa [dz,flat] using h.symm) | cases e1)
   | str q=>exact flatCase e1 rfl (by cases x <;> first | (cases e1;simpa [dz,flat] using h.symm) | cases e1)
  cases x with
  | dct=>simp [dz,flat] at h
  | dic _=>simp [dz,flat] at h
  | dip _=>simp [dz,flat] at h
  | non=>exact ⟨flatAll (fun _ z=>nomatch z) (fun _ z=>nomatch z) _ rfl,fun ⟨xs,z⟩=>by rcases z with z | z <;> cases z⟩
  | bl q=>exact ⟨flatAll (fun _ z=>nomatch z) (fun _ z=>nomatch z) _ rfl,fun ⟨xs,z⟩=>by rcases z with z | z <;> cases z⟩
  | int q=>exact ⟨flatAll (fun _ z=>nomatch z) (fun _ z=>nomatch z) _ rfl,fun ⟨xs,z⟩=>by rcases z with z | z <;> cases z⟩
  | str q=>exact ⟨flatAll (fun _ z=>nomatch z) (fun _ z=>nomatch z) _ rfl,fun ⟨xs,z⟩=>by rcases z with z | z <;> cases z⟩
  | tup xs=>
   cases y with
   | tup ys=>
    obtain ⟨l,vs,rfl,h1,h2⟩:=rx.tup
    obtain ⟨k,ws,rfl,g1,g2⟩:=ry.tup
    cases ru;cases rz
    obtain ⟨is,v1,p1,_⟩:=I.tuple (.of (m _ _ h1))
    obtain ⟨js,v2,p2,_⟩:=I.tuple (.of (m _ _ g1))
    have s1:is.toArray.size=xs.length:=by rw [List.size_toArray,<- v1.length,h2.length]
    have s2:js.toArray.size=ys.length:=by rw [List.size_toArray,<- v2.length,g2.length]
    have rc:RcAt A s (.ref l) (.ref k) b:= by
     unfold dz at h
     cases q:dz.go n xs ys with
     | none=>rw [q] at h;cases h
     | some b'=>
      rw [q] at h;cases h
      obtain ⟨e,he,hb⟩:=i9 q
      have:=RcAt.tuples p1 p2 hu' (items h2 g2 v1 v2 he)
      rw [s1,s2,<- hb] at this
      exact this
    exact ⟨refs rfl rfl rfl rfl rc,fun _=>rc⟩
   | _=>simp [dz,flat] at h
  | lst xs=>
   cases y with
   | lst ys=>
    obtain ⟨l,vs,rfl,h1,h2⟩:=rx.lst
    obtain ⟨k,ws,rfl,g1,g2⟩:=ry.lst
    cases ru;cases rz
    obtain ⟨is,v1,p1,_⟩:=I.list (.inl (Rd.mono m h1))
    obtain ⟨js,v2,p2,_⟩:=I.list (.inl (Rd.mono m g1))
    have s1:is.toArray.size=xs.length:=by rw [List.size_toArray,<- v1.length,h2.length]
    have s2:js.toArray.size=ys.length:=by rw [List.size_toArray,<- v2.length,g2.length]
    have rc:RcAt A s (.ref l) (.ref k) b:= by
     unfold dz at h
     split at h
     .rename_i hl
      obtain ⟨e,he,hb⟩:=i9 h
      have:=RcAt.lists p1.isList p2.isList (by rw [s1,s2,hl]) hu' (items h2 g2 v1 v2 he)
      rw [hb,<- hl,Nat.min_self,<- s1];exact this
     .rename_i hl
      cases h
      exact RcAt.lists_lengths p1.isList p2.isList (by rw [s1,s2];simpa using hl) hu'
    grind
   | _=>simp [dz,flat] at h
theorem i3(o:bR k A):A.units+20<cLine:=by have:=o.un;omega
noncomputable def g6:D->D->Bool
 | .tup _,.tup _=>true
 | .lst _,.lst _=>true
 |_,_=>false
noncomputable def jS(neg:Bool)(x y:D):Option D:=if g6 x y=true then(dz 9 x y).map λ b=> .bl (if neg then !b else b)else dA neg x y
noncomputable def Ig:R2:= λ v u H Q=>J3 v u H Q\/ ∃(C:Hp) (x y:D) (b:Bool),(∀b o,C b=some o->H b=some o)/\R C x v/\R C y u/\g6 x y=true/\dz 9 x y=some b/\Q (.bl b) H
theorem zj(hu:X.A.units+20<cLine):gW X (compareOp .Eq) Ig:=by
 intro pins s σ H v w u z Q I o C h;rcases h with h|⟨Hh,x,y,b,m,J,U,hs,e,q⟩
 .exact wY pins s σ H v w u z Q I o C h
 .have:=(xt I m 9 X.A (by omega) x y v w u z b J U o C e).2 (by cases x <;> first|grind|exact⟨_,.inr rfl⟩|(simp[g6]at hs));exact this _ _ _ _ ⟨.bl b,H,I,rfl,q⟩
theorem tS:qR Ig (jS false):= λ c o S σ T H x y v u d Q s e k=>by
 unfold jS at e;split at e;. rename_i hs;cases q:dz 9 x y with
  |none=>rw[q]at e;cases e
  |some b=>rw[q]at e;cases e;exact .inr ⟨_,x,y,b,br,s.st.tail.head,s.st.head,hs,q,k _ _ (s.stk (.cons .mkB s.st.tail.tail))⟩
 .exact .inl (oD c o S σ T H x y v u d Q s e k)
theorem IP(o:bR k X.A)(C:DE X a fa)(I:DE X b fb):DE X (.Compare a [.Eq] [b] pos) (m2 (jS false) fa fb):=yc (zj (i3 o)) tS C I
theorem sU(o:bR k X.A)(C:DE X a fa)(I:DE X b fb):DT X (.Compare a [.Eq] [b] pos) (m2 (jS false) fa fb >>= lB):=gk (zj (i3 o)) tS C I
end
section
variable {X:Cx} {a b e:Expr} {fa fb:M D} {fs:M (List D)} {pos p:Pos} {x:Str}
open SeqAt in
theorem FA{σ:St}{H Hh:Hp}{s:Shared}(I:Inv X pins σ H s)(m:∀b o,Hh b=some o->H b=some o){n:Nat}{A:Around}(hu:A.units+(n+1)<cLine){x y:D}{v w:V}{u z:Value}{b:Bool}(rx:R Hh x v)(ry:R Hh y w)(ru:RelV v u)(rz:RelV w z)
  (hs:g6 x y=true)(h:dz (n+1) x y=some b):RcNeAt A s u z (!b):=by
 have U:A.units<cLine:=by omega
 have items:∀{xs ys:List D}{vs ws:List V}{is C:List Value}{e:Nat->Bool},Rs Hh xs vs->Rs Hh ys ws->Vals vs is->Vals ws C->(∀(j:Nat) x y,xs[j]?=some x->ys[j]?=some y->dz n x y=some (e j))->
   ∀j(h1:j<is.toArray.size)(J:j<C.toArray.size),EqAt A.in1 s is.toArray[j] C.toArray[j] (e j):= λ{xs ys vs ws is C e} r1 r2 v1 v2 he j h1 J=>by
  have l1:j<xs.length:=by rw[<- r1.length,v1.length];simpa using h1
  have l2:j<ys.length:=by rw[<- r2.length,v2.length];simpa using J
  obtain⟨v',e1,q1⟩:=r1.get (List.getElem?_eq_getElem l1);obtain⟨w',e2,q2⟩:=r2.get (List.getElem?_eq_getElem l2);obtain⟨u',e3,q3⟩:=v1.get e1;obtain⟨z',e4,q4⟩:=v2.get e2;have:=(xt I m n A.in1 (by show A.units+1+n<_;omega) _ _ v' w' u' z' (e j) q1 q2 q3 q4 (he j _ _ (List.getElem?_eq_getElem l1) (List.getElem?_eq_getElem l2))).1;grind
 cases x with
 |tup xs=>cases y with
  |tup ys=>
   obtain⟨l,vs,rfl,h1,J⟩:=rx.tup;obtain⟨k,ws,rfl,g1,g2⟩:=ry.tup;cases ru;cases rz;obtain⟨is,v1,p1,_⟩:=I.tuple (.of (m _ _ h1));obtain⟨C,v2,p2,_⟩:=I.tuple (.of (m _ _ g1));have s1:is.toArray.size=xs.length:=by rw[List.size_toArray,<- v1.length,J.length]
   have s2:C.toArray.size=ys.length:=by rw[List.size_toArray,<- v2.length,g2.length]
   unfold dz at h;cases q:dz.go n xs ys with
   |none=>rw[q]at h;cases h
   |some b'=>rw[q]at h;cases h;obtain⟨e,he,hb⟩:=i9 q;have:=RcNeAt.tuples p1 p2 U (items J g2 v1 v2 he);rw[s1,s2,<- hb]at this;exact this
  |_=>simp[g6]at hs
 |lst xs=>cases y with
  |lst ys=>
   obtain⟨l,vs,rfl,h1,J⟩:=rx.lst;obtain⟨k,ws,rfl,g1,g2⟩:=ry.lst;cases ru;cases rz;obtain⟨is,v1,p1,_⟩:=I.list (.inl (Rd.mono m h1));obtain⟨C,v2,p2,_⟩:=I.list (.inl (Rd.mono m g1));have s1:is.toArray.size=xs.length:=by rw[List.size_toArray,<- v1.length,J.length]
   have s2:C.toArray.size=ys.length:=by rw[List.size_toArray,<- v2.length,g2.length]
   unfold dz at h;split at h;. rename_i hl;obtain⟨e,he,hb⟩:=i9 h;have:=RcNeAt.lists p1.isList p2.isList (by rw[s1,s2,hl]) U (items J g2 v1 v2 he);rw[hb,<- hl,Nat.min_self,<- s1];exact this
   .rename_i hl;cases h;exact RcNeAt.lists_lengths p1.isList p2.isList (by rw[s1,s2];simpa using hl) U
  |_=>simp[g6]at hs
 |_=>simp[g6]at hs
noncomputable def Il:R2:= λ v u H Q=>Fj v u H Q\/ ∃(C:Hp) (x y:D) (b:Bool),(∀b o,C b=some o->H b=some o)/\R C x v/\R C y u/\g6 x y=true/\dz 9 x y=some b/\Q (.bl (!b)) H
theorem zP(hu:X.A.units+20<cLine):gW X (compareOp .NotEq) Il:=by
 intro pins s σ H v w u z Q I o C h;rcases h with h|⟨Hh,x,y,b,m,J,U,hs,e,q⟩
 .exact yM pins s σ H v w u z Q I o C h
 .exact FA I m (n:=8) (A:=X.A) (by omega) J U o C hs e _ _ _ _ ⟨.bl (!b),H,I,rfl,q⟩
theorem DK:qR Il (jS true):= λ c o S σ T H x y v u d Q s e k=>by
 unfold jS at e;split at e;. rename_i hs;cases q:dz 9 x y with
  |none=>rw[q]at e;cases e
  |some b=>rw[q]at e;cases e;exact .inr ⟨_,x,y,b,br,s.st.tail.head,s.st.head,hs,q,k _ _ (s.stk (.cons .mkB s.st.tail.tail))⟩
 .exact .inl (uA c o S σ T H x y v u d Q s e k)
theorem pX(o:bR k X.A)(C:DE X a fa)(I:DE X b fb):DT X (.Compare a [.NotEq] [b] pos) (m2 (jS true) fa fb >>= lB):=gk (zP (i3 o)) DK C I
noncomputable def Jc(ta:TA):TE:= λ σ H Q=>ta σ H λ vs H1=>∃j:Int,vs=[.int j]/\∀q,H1 q=none->Q (.ref q) (upd H1 q (.rng 0 j))
theorem vL(C:Gl X "range")(hm:X.mg "range"=none)(J:PA X [a] ta)(hs:starEach [a] X.env=[(false,eval a X.env)]:=by rfl):PE X (.Call (.Name "range" p) [a] [] pos) (Jc ta):=by intro pins s σ H Q I h;refine PyProof.Rows.Call_ (gf I C hm (show bootBuiltins "range"=some (.type "range")by decide+kernel) (PyProof.Rows.callWith_type1 (cp (J pos pins s σ H _ I h) λ us s1 ⟨vs,H1,o,U,q1⟩=>?_) hs rfl));obtain⟨j,e,q⟩:=q1;subst e;cases U with
 |cons r rr=>cases rr;obtain⟨t,rfl⟩:=r;refine call_range_1 ⟨.ref s1.heap.objs.size,upd H1 s1.heap.objs.size (.rng 0 j),o.laid (λ b u e=>Heap.get?_push_of_some _ e) (Nat.le_refl _) ?_,rfl,q _ o.fresh⟩;exact⟨_,_,_,Heap.get?_push_size _ rfl⟩
theorem kC{acc:Array Value}(h:ItemsOf (λ i v=>∃t,v= .int (lo+i*1) t) acc n):Vals ((List.range n).map λ(i:Nat)=>V.int (lo+i)) acc.toList:=by
 obtain⟨U,I⟩:=h;have gen:∀(us:List Value)(k:Nat),(∀(j:Nat) v,us[j]?=some v->∃t,v= .int (lo+((k+j:Nat):Int)) t)->Vals ((List.range us.length).map λ i=>V.int (lo+((k+i:Nat):Int))) us:=by intro us;induction us with
  |nil=>intro k _;exact .nil
  |cons u us J=>
   intro k C;rw[List.length_cons,List.range_succ_eq_map];obtain⟨t,e⟩:=C 0 u rfl;refine .cons ⟨t,by simpa using e⟩ ?_;have:=J (k+1) λ j v o=>by obtain⟨t,e⟩:=C (j+1) v (by simpa using o);exact⟨t,by rw[e];congr 2;omega⟩
   have e2:((λ i=>V.int (lo+((k+i:Nat):Int)))∘Nat.succ)= λ i=>V.int (lo+((k+1+i:Nat):Int)):=by funext i;show V.int _=V.int _;congr 2;omega
   simp_all
 have:=gen acc.toList 0 λ j v o=>by obtain⟨t,e⟩:=I j v (by simpa using o);exact⟨t,by rw[e];simp⟩
 grind
theorem su(J:X.calm=true):cT X (.type "list") (λ xs H Q=>∃q j,xs=[.ref q]/\H q=some (.rng 0 j)/\j<100000/\ -(2^62)<=j/\∀l,H l=none->Q (.ref l) (upd H l (.lst ((List.range j.toNat).map λ(i:Nat)=>V.int (0+i))))):=by
 intro pins s σ H xs us Q I r h;obtain⟨q,j,rfl,U,hj,C,k⟩:=h;obtain⟨u,rfl,rx⟩:=r.one;cases rx;obtain⟨t,u',v,hr⟩:=I.hok q _ U;refine call_list_range (n:=j.toNat) (I.ok.hd J) hr (small_one (by omega) (by omega) C (by omega)) (by rw[rangeSize_one];split <;> omega) (by omega) λ h' tk o c' kp e hi=>?_;refine⟨.ref s.heap.objs.size,_,I.laid (t':=tk) kp (Nat.le_refl _) (show cu X.prog X.w _ h' _ (.lst _)from⟨?_,o.toList,c',kC hi,by simpa using e⟩),rfl,k _ I.fresh⟩;have:100000<sizeLine:=by decide
 grind
noncomputable def nu:List D->Option (List D)
 |[.int j]=>if j<100000/\ -(2^62)<=j then some (bZ 0 j.toNat)else none
 |_=>none
theorem mU:Rs H (bZ lo n) ((List.range n).map λ(i:Nat)=>V.int (lo+i)):=by unfold bZ;induction(List.range n)with
 |nil=>rfl
 |cons i r o=>exact .cons .mkI o
theorem fI{p2 C:Pos}(I:X.mg "list"=none)(J:X.mg "range"=none)(ha:DA X [a] fs)(U:Gl X "list":=by rfl)(aa:Gl X "range":=by rfl)(hc:X.calm=true:=by rfl)(hs:starEach [a] X.env=[(false,eval a X.env)]:=by rfl):
  DF X (.Call (.Name "list" p) [.Call (.Name "range" p2) [a] [] C] [] pos) (mC nu fs):=
 cB (eC (su hc) U I (by decide+kernel) (bh (vL aa J ha hs) cb) (by decide) (by decide) rfl rfl) λ σ H Q ⟨c,δ,S,T,d,ae,s,e,k⟩=>by
  obtain⟨ds,ab,e1,e⟩:=bind_some e;obtain⟨o,rfl⟩:=ba e;refine⟨c,δ,S,T,ds,ab,s,e1,λ vs H1 l s1=>?_⟩;unfold nu at o;split at o
  .rename_i j;split at o
   .rename_i hj;cases o;obtain⟨v,rfl,r⟩:=wy (s1.st.left l);cases r.int;refine⟨j,rfl,λ q hq=>⟨q,j,rfl,bf,hj.1,hj.2,λ m hm=>?_⟩⟩;have s2:=(s1.drop l).grow (dt hq (.rng 0 j));obtain⟨f1,f2,f3⟩:=s2.fresh hm;refine k m _ _ (mU (H:=H)).length ((s2.hide hm).stk ?_) f1 f2 f3;exact mU.append (s2.hide hm).st
   .cases o
  .cases o
end
section
variable {X:Cx} {a b e:Expr} {fa:M D} {pos p:Pos}
inductive Ty where
 | int | bool | tup | lst | str
noncomputable def Ty.name:Ty->String
 | .int=>"int"
 | .bool=>"bool"
 | .tup=>"tuple"
 | .lst=>"list"
 | .str=>"str"
noncomputable def iV:Ty->D->Option Bool
 | .int,.int _=>some true
 | .int,.bl _=>some true
 | .bool,.bl _=>some true
 | .tup,.tup _=>some true
 | .lst,.lst _=>some true
 | .str,.str _=>some true
 |_,_=>some false
theorem dictAt {a:Addr} (I:Inv X pins σ H s) (h:H a=some (kh a)):∃o,s.heap.get? a=some o∧o.cls=.type "dict":= by
 obtain ⟨⟨_,o,_,h1,h2,_⟩,_⟩:=I.hok a _ h
 grind
theorem Eg{σ:St}{H:Hp}{s:Shared}{a:Addr}{kvs:List (Int×Int)}(I:Inv X pins σ H s)(h:H a=some (g9 kvs)):∃o,s.heap.get? a=some o/\o.cls= .type "dict":=by obtain⟨_,_,vs,_,o,_,_,C,J,_⟩:=(show cu X.prog X.w H s.heap a (g9 kvs)from I.hok a _ h);exact⟨o,C,J.1⟩
theorem D3{σ:St}{H:Hp}{s:Shared}{a:Addr}{kvs:List ((Int×Int)×Int)}(I:Inv X pins σ H s)(h:H a=some (B9 kvs)):∃o,s.heap.get? a=some o/\o.cls= .type "dict":=by obtain⟨_,_,xs,_,o,_,_,C,J,_⟩:=(show cu X.prog X.w H s.heap a (B9 kvs)from I.hok a _ h);exact⟨o,C,J.1⟩
theorem yN:cT X (.builtin "isinstance") (λ xs H Q=>∃(Hh:Hp) (d:D) (v:V) (T:Ty) (k:Bool),xs=[v,.ty T.name]/\(∀b o,Hh b=some o->H b=some o)/\R Hh d v/\iV T d=some k/\Q (.bl k) H):=by intro pins s σ H xs us Q I r h;obtain⟨Hh,d,v,T,k,rfl,m,rd,ek,q⟩:=h;obtain⟨u,z,rfl,ru,rz⟩:=r.two;cases rz;have fin:∀tk,EP X pins σ Q (.bool k) { s with toks:=tk }:= λ tk=>⟨.bl k,H,I.tok _,rfl,q⟩;have U:EP X pins σ Q (.bool k) s:=⟨.bl k,H,I,rfl,q⟩;cases d with
 |non=>
  cases rd.non;cases ru;cases T <;> cases ek;. exact IsiPair.NoneType_int (fin _)
  .exact IsiPair.NoneType_bool (fin _)
  .exact IsiPair.NoneType_tuple (fin _)
  .exact IsiPair.NoneType_list (fin _)
  .exact IsiPair.NoneType_str (fin _)
 |int i=>
  cases rd.int;obtain⟨t,rfl⟩:=ru;cases T <;> cases ek;. exact IsiPair.int_int U
  .exact IsiPair.int_bool (fin _)
  .exact IsiPair.int_tuple (fin _)
  .exact IsiPair.int_list (fin _)
  .exact IsiPair.int_str (fin _)
 |bl i=>
  cases rd.bl;cases ru;cases T <;> cases ek;. exact IsiPair.bool_int U
  .exact IsiPair.bool_bool U
  .exact IsiPair.bool_tuple (fin _)
  .exact IsiPair.bool_list (fin _)
  .exact IsiPair.bool_str (fin _)
 |str i=>
  cases rd.str;obtain⟨t,rfl⟩:=ru;cases T <;> cases ek;. exact IsiPair.str_int (fin _)
  .exact IsiPair.str_bool (fin _)
  .exact IsiPair.str_tuple (fin _)
  .exact IsiPair.str_list (fin _)
  .exact IsiPair.str_str U
 |tup ds=>
  obtain⟨q',vs,rfl,h1,h2⟩:=rd.tup;cases ru;obtain⟨its,_,⟨o,C,J,_⟩,_⟩:=I.tuple (.of (m _ _ h1));cases T <;> cases ek;. exact IsiPair.tuple_int C J (fin _)
  .exact IsiPair.tuple_bool C J (fin _)
  .exact IsiPair.tuple_tuple C J U
  .exact IsiPair.tuple_list C J (fin _)
  .exact IsiPair.tuple_str C J (fin _)
 |lst ds=>
  obtain⟨q',vs,rfl,h1,h2⟩:=rd.lst;cases ru;obtain⟨its,_,pl,_⟩:=I.list (.inl (Rd.mono m h1));obtain⟨o,C,J,_⟩:=pl.isList;cases T <;> cases ek;. exact IsiPair.list_int C J (fin _)
  .exact IsiPair.list_bool C J (fin _)
  .exact IsiPair.list_tuple C J (fin _)
  .exact IsiPair.list_list C J U
  .exact IsiPair.list_str C J (fin _)
 |dct=>
  obtain⟨q',rfl,h1⟩:=rd.dct;cases ru;obtain⟨o,C,J⟩:=dictAt I (m _ _ h1);cases T <;> cases ek;. exact IsiPair.dict_int C J (fin _)
  .exact IsiPair.dict_bool C J (fin _)
  .exact IsiPair.dict_tuple C J (fin _)
  .exact IsiPair.dict_list C J (fin _)
  .exact IsiPair.dict_str C J (fin _)
 |dic kvs=>
  obtain⟨q',rfl,h1⟩:=rd.dic;cases ru;obtain⟨o,C,J⟩:=Eg I (m _ _ h1);cases T <;> cases ek;. exact IsiPair.dict_int C J (fin _)
  .exact IsiPair.dict_bool C J (fin _)
  .exact IsiPair.dict_tuple C J (fin _)
  .exact IsiPair.dict_list C J (fin _)
  .exact IsiPair.dict_str C J (fin _)
 |dip kvs=>
  obtain⟨q',rfl,h1⟩:=rd.dip;cases ru;obtain⟨o,C,J⟩:=D3 I (m _ _ h1);cases T <;> cases ek;. exact IsiPair.dict_int C J (fin _)
  .exact IsiPair.dict_bool C J (fin _)
  .exact IsiPair.dict_tuple C J (fin _)
  .exact IsiPair.dict_list C J (fin _)
  .exact IsiPair.dict_str C J (fin _)
noncomputable def l4(T:Ty)(fa:M D):M D:=do
 let d<- fa
 let k<- lift (iV T d)
 pure (.bl k)
theorem D8(T:Ty){y:Str}{py:Pos}(o:Gl X y)(hm:X.mg y=none)(C:bootBuiltins y=some (.type T.name))(I:y≠"__name__":=by decide)(hd:(y==("__debug__":Str))=false:=by decide):PE X (.Name y py) (tC (.ty T.name)):=tV o hm C rfl I hd
theorem d_(T:Ty){y:Str}{py:Pos}(o:X.mg "isinstance"=none)(C:X.mg y=none)(ha:DE X a fa)(hv:bootBuiltins y=some (.type T.name):=by decide+kernel)(I:Gl X "isinstance":=by rfl)(J:Gl X y:=by rfl)(hn:y≠"__name__":=by decide)(hd:(y==("__debug__":Str))=false:=by decide)
  (he:starEach [a,.Name y py] X.env=(false,eval a X.env)::starEach [.Name y py] X.env:=by rfl):DE X (.Call (.Name "isinstance" p) [a,.Name y py] [] pos) (l4 T fa):=
 cB (dr yN I o (by decide+kernel) (bh ha (bh (D8 T J C hv hn hd) cb) he) (by decide) (by decide) he rfl) λ σ H Q ⟨c,δ,S,TT,d,aa,s,e,k⟩=>by obtain⟨x,U,e1,e⟩:=bind_some e;obtain⟨b,ab,e2,e⟩:=bind_some e;obtain⟨e3,rfl⟩:=ba e2;obtain⟨rfl,rfl⟩:=aV e;exact⟨c,δ,S,TT,x,U,s,e1,λ v H1 s1=>⟨_,x,v,T,b,rfl,br,s1.st.head,e3,k _ _ (s1.stk (.cons .mkB s1.st.tail))⟩⟩
end
noncomputable def uM(x:Int):List Int->List Int
 |[]=>[x]
 |y::r=>if x<=y then x::y::r else y::uM x r
noncomputable def b_:List Int->List Int
 |[]=>[]
 |x::r=>uM x (b_ r)
theorem jg(x:Int):∀l,(uM x l).Perm (x::l)
 |[]=>List.Perm.refl _
 |y::r=>by
  unfold uM;split;. rfl
  .exact((jg x r).cons y).trans (List.Perm.swap _ _ _)
theorem dR:∀l,(b_ l).Perm l
 |[]=>List.Perm.refl _
 |x::r=>(jg x _).trans ((dR r).cons x)
theorem tL(x:Int):∀l:List Int,l.Pairwise (. <= .)->(uM x l).Pairwise (. <= .)
 |[],_=>List.pairwise_singleton _ _
 |y::r,h=>by
  obtain⟨o,C⟩:=List.pairwise_cons.mp h;unfold uM;split
  .rename_i hx;refine List.pairwise_cons.mpr ⟨λ z hz=>?_,h⟩;rcases List.mem_cons.mp hz with e|hz
   .rw[e];exact hx
   .exact Int.le_trans hx (o z hz)
  .refine List.pairwise_cons.mpr ⟨λ z hz=>?_,tL x r C⟩;rcases List.mem_cons.mp ((jg x r).mem_iff.mp hz)with e|hz
   .omega
   simp_all
theorem kI:∀l,(b_ l).Pairwise (. <= .)
 |[]=>List.Pairwise.nil
 |x::r=>tL x _ (kI r)
theorem mE:∀{a b:List Int},a.Perm b->a.Pairwise (. <= .)->b.Pairwise (. <= .)->a=b
 |[],b,p,_,_=>(List.nil_perm.mp p).symm
 |x::a,[],p,_,_=>absurd p (by simp)
 |x::a,y::b,p,o,C=>by
  obtain⟨a1,a2⟩:=List.pairwise_cons.mp o;obtain⟨b1,I⟩:=List.pairwise_cons.mp C;have e:x=y:=by have hx:x∈y::b:=p.mem_iff.mp List.mem_cons_self;have J:y∈x::a:=p.mem_iff.mpr List.mem_cons_self;grind
  subst e;rw[mE ((List.perm_cons x).mp p) a2 I]
theorem iL(p:a.Perm b)(h:a.Pairwise (. <= .)):a=b_ b:=mE (p.trans (dR b).symm) h (kI b)
noncomputable def fX:List Int->List Int
 |[]=>[]
 |x::r=>if x∈fX r then fX r else x::fX r
theorem dI:∀{l:List Int},z∈fX l↔z∈l
 |[]=>Iff.rfl
 |x::r=>by
  unfold fX;split;. rename_i h;rw[dI,List.mem_cons];exact⟨.inr,λ q=>q.elim (λ e=>e▸dI.mp h) id⟩
  .rw[List.mem_cons,List.mem_cons,dI]
theorem dX:∀(l:List Int),(fX l).Nodup
 |[]=>List.nodup_nil
 |x::r=>by
  unfold fX;split;. exact dX r
  .rename_i h;exact List.nodup_cons.mpr ⟨h,dX r⟩
theorem sf(l:List Int):(fX l).length<=l.length:=by induction l with
 |nil=>exact Nat.le_refl _
 |cons x r o=>unfold fX;grind
theorem zC{a b:List Int}(nd:a.Nodup)(h:∀z,z∈a↔z∈b):a.Perm (fX b):=by refine(List.perm_ext_iff_of_nodup nd (dX b)).mpr λ z=>?_;rw[h z,dI]
inductive Ks (K:PySem.W.Frag) (f:M (List D)) (σ:St) (H:Hp) (Q:VK):Prop
 | mk (c:Ct) (δ:DS) (S:List D) (T:List V) (xs:List D) (δ':DS) (s:Sl c δ S σ T H) (e:f δ=some (xs,δ')) (q:∀p vs H',vs.length=xs.length->(fG K H' p vs ∨ gx K H' p vs)->Sl c δ' (xs ++ S) σ (vs ++ T) H' -> Q (.ref p) H'):Ks K f σ H Q
noncomputable abbrev DQ(X:Cx)(e:Expr)(f:M (List D)):Prop:=PE X e (Ks X.K f)
section
variable {X:Cx} {b e:Expr} {fa:M D} {fq:M (List D)} {pos p:Pos} {x:Str}
theorem j3(h:DE X e fa):DQ X e (do let x<- fa;lift (eN x)):=cB h λ σ H Q ⟨c,U,S,T,xs,aa,s,e,k⟩=>by obtain⟨d,C,e1,e⟩:=bind_some e;obtain⟨I,rfl⟩:=ba e;refine⟨c,U,S,T,d,C,s,e1,λ v H' s'=>?_⟩;cases d with
 |tup ds=>cases I;obtain⟨q,vs,rfl,J,o⟩:=s'.st.head.tup;exact k q vs H' o.length (.inr (.of (br _ _ J))) (s'.stk (o.append s'.st.tail))
 |lst ds=>cases I;obtain⟨q,vs,rfl,J,o⟩:=s'.st.head.lst;exact k q vs H' o.length (.inl (.inl (Rd.mono br J))) (s'.stk (o.append s'.st.tail))
 |_=>cases I
theorem Inv.kd{σ:St}{H:Hp}{s:Shared}{h':Heap}{t':Nat}{d':Drawn}(I:Inv X pins σ H s)(k:∀b u,s.heap.get? b=some u->h'.get? b=some u):Inv X pins σ H { s with heap:=h',toks:=t',drawn:=d' }:=by have o:=I.kept (t':=t') k;exact⟨o.ok,o.os,o.bare,o.base,o.loc,o.cell,o.free,o.freeC,o.pin,o.hok,o.len⟩
theorem gM:∀{us:List Value},PyProof.Rows.IntsAre us ns->Vals (ns.map V.int) us:=by induction ns with
 |nil=>intro us h;cases h;exact .nil
 |cons n ns o=>intro us h;cases h with
  |cons _ t h=>exact .cons ⟨t,rfl⟩ (o h)
theorem jY{σ:St}{H:Hp}{s:Shared}{ns ms:List Int}{Q:VK}{C h':Heap}{tk:Nat}{d:Drawn}{out:List Value}{e:Nat}(I:Inv X pins σ H s)(k:∀b o,s.heap.get? b=some o->C.get? b=some o)(k2:∀b o,C.get? b=some o->h'.get? b=some o)
  (hg:h'.get? C.objs.size=some { cls:= .type "list",data:= .seq out.toArray e })(hi:PyProof.Rows.IntsAre out ms)(J:ms.Perm ns)(hu:ms.Pairwise (. <= .))(hl:ns.length<64)(q:∀l,H l=none->Q (.ref l) (upd H l (.lst ((b_ ns).map V.int)))):
  EP X pins σ Q (.ref C.objs.size) { s with heap:=h',toks:=tk,drawn:=d }:=by have U:Inv X pins σ H { s with heap:=C,toks:=tk,drawn:=d }:=Inv.kd I k;have em:=iL J hu;refine⟨.ref C.objs.size,_,U.laid (t':=tk) (o:= .lst ((b_ ns).map V.int)) k2 (Nat.le_refl _) ⟨?_,out,e,em▸gM hi,hg⟩,rfl,q _ (U.hok.fresh (Nat.le_refl _))⟩;rw[List.length_map,<- em,J.length_eq,sizeLine_eq];omega
theorem oO:cT X (.builtin "sorted") (λ xs H Q=>∃p ns,xs=[.ref p]/\(fG X.K H p (ns.map V.int)\/gx X.K H p (ns.map V.int))/\ns.length<64/\∀l,H l=none->Q (.ref l) (upd H l (.lst ((b_ ns).map V.int)))):=by
 intro pins s σ H xs us Q I r h;obtain⟨p,ns,rfl,C,hl,q⟩:=h;obtain⟨u,rfl,ru⟩:=r.one;cases ru;refine jw (ns:=ns) (λ A' Q' E' hA J=>?_) hl λ h1 h' tk d out ms e k k2 hg hi hp hu=>jY I k k2 hg hi hp hu hl q;rcases C with C|C
 .obtain⟨its,U,pl,hz⟩:=I.list C;obtain⟨o,ho,hc,n,hd⟩:=pl.isList;exact wpAny_collect_seq p (.inl rfl) ho hc hd (λ h' k=>J _ ns h' s.toks s.drawn (by simpa using intsAre_of U) (List.Perm.refl _) k) (by rw[List.size_toArray,<- U.length];omega)
 .obtain⟨its,U,⟨o,ho,hc,n,hd⟩,hz⟩:=I.tuple C;exact wpAny_collect_seq p (.inr rfl) ho hc hd (λ h' k=>J _ ns h' s.toks s.drawn (by simpa using intsAre_of U) (List.Perm.refl _) k) (by rw[List.size_toArray,<- U.length];exact hz)
noncomputable def fC:List D->Option (List Int)
 |[]=>some []
 | .int i::r=>(fC r).map (i:: .)
 |_=>none
theorem jO:∀{ds:List D}{vs:List V}{ns:List Int},Rs H ds vs->fC ds=some ns->vs=ns.map V.int
 |[],vs,ns,h,e=>by cases e;exact h.inv0
 |d::ds,vs,ns,h,e=>by obtain⟨v,r,ev,o,C⟩:=h.inv;cases d with
  |int b=>unfold fC at e;cases q:fC ds with
   |none=>simp_all
   |some I=>rw[q]at e;cases e;rw[ev,o.int,jO C q];rfl
  |_=>cases e
theorem gH:∀(ns:List Int),Rs H (ns.map D.int) (ns.map V.int)
 |[]=> .nil
 |n::ns=> .cons .mkI (gH ns)
noncomputable def sortI(xs:List D):Option (List D):=match fC xs with
 |some ns=>if ns.length<64 then some ((b_ ns).map D.int)else none
 |none=>none
noncomputable def mQ{α:Type}(g:List D->Option α)(f:M (List D)):M α:=do
 let xs<- f
 lift (g xs)
theorem e9(hm:X.mg "sorted"=none)(h:DQ X e fq)(J:Gl X "sorted":=by rfl)(he:starEach [e] X.env=[(false,eval e X.env)]:=by rfl):DF X (.Call (.Name "sorted" p) [e] [] pos) (mQ sortI fq):=
 cB (dr oO J hm PyProof.Rows.boot_sorted (bh h cb he) (by decide) (by decide) he rfl) λ σ H Q ⟨c,U,S,T,xs,aa,s,e,k⟩=>by
  obtain⟨ds,I,e1,e⟩:=bind_some e;obtain⟨C,rfl⟩:=ba e;refine⟨c,U,S,T,ds,I,s,e1,λ q vs H1 l hq s1=>?_⟩;unfold sortI at C;split at C
  .rename_i ns en;split at C
   .rename_i hn;cases C;have ev:=jO (s1.st.left l) en;subst ev;refine⟨q,ns,rfl,hq,hn,λ m hm=>?_⟩;obtain⟨f1,f2,f3⟩:=s1.fresh hm;have s2:=(s1.drop l).hide (o:= .lst ((b_ ns).map V.int)) hm;exact k m _ _ (by simp) (s2.stk ((gH _).append s2.st)) f1 f2 f3
   .cases C
  grind
noncomputable def kG(w:World)(S:Addr)(ns:List Int):HO:= .ext λ h=>∃l o t,bW w h S l o t/\(l.map (·.1)).Perm (fX ns)
theorem wH(hc:X.calm=true):cT X (.type "set") (λ xs H Q=>∃p ns,xs=[.ref p]/\(fG X.K H p (ns.map V.int)\/gx X.K H p (ns.map V.int))/\ns.length<4000/\∀l,H l=none->Q (.ref l) (upd H l (kG X.w l ns))):=by
 intro pins s σ H xs us Q I r h;obtain⟨p,ns,rfl,C,hl,q⟩:=h;obtain⟨u,rfl,ru⟩:=r.one;cases ru;have fin:∀(h':Heap)(tk:Nat)(ls:List (Int×Tok))(J:Nat)(t:SetTable),bW X.w h' s.heap.objs.size ls J t->(ls.map (·.1)).Nodup->(∀z,z∈ls.map (·.1)↔z∈ns)->(∀b o,s.heap.get? b=some o->h'.get? b=some o)->
   EP X pins σ Q (.ref s.heap.objs.size) { s with heap:=h',toks:=tk }:= λ h' tk ls J t x nd mem k=>by refine⟨.ref s.heap.objs.size,_,I.laid (t':=tk) (o:=kG X.w s.heap.objs.size ns) k (Nat.le_refl _) ⟨⟨ls,J,t,x,zC nd mem⟩,?_,λ h1 h2 ⟨l,J,t,x,p⟩ k=>⟨l,J,t,x.at k,p⟩⟩,rfl,q _ I.fresh⟩;obtain⟨o,ho,_⟩:=x.obj;simp_all
 rcases C with C|C
 .obtain⟨its,U,pl,hz⟩:=I.list C;have hn:its.toArray.size=ns.length:=by rw[List.size_toArray,<- U.length,List.length_map]
  exact vC (ns:=ns) (I.ok.hd hc) pl.isList (by simpa using intsAre_of U) (by show _<4096;omega) fin
 .obtain⟨its,U,pl,hz⟩:=I.tuple C;have hn:its.toArray.size=ns.length:=by rw[List.size_toArray,<- U.length,List.length_map]
  exact vM (ns:=ns) (I.ok.hd hc) (show s.heap.IsTuple p its.toArray from pl) (by simpa using intsAre_of U) (by show _<4096;omega) fin
theorem kf(U:X.calm=true):cT X (.builtin "sorted") (λ xs H Q=>∃p ns,xs=[.ref p]/\H p=some (kG X.w p ns)/\ns.length<64/\∀l,H l=none->Q (.ref l) (upd H l (.lst ((b_ (fX ns)).map V.int)))):=by
 intro pins s σ H xs us Q I r h;obtain⟨p,ns,rfl,hq,hl,q⟩:=h;obtain⟨u,rfl,ru⟩:=r.one;cases ru;obtain⟨⟨l,ep,t,x,pm⟩,_⟩:=I.hok p _ hq;have C:(fX ns).length<64:=Nat.lt_of_le_of_lt (sf ns) hl;refine jw (ns:=fX ns) (λ A' Q' E' hA J=>?_) C λ h1 h' tk d out ms e k k2 hg hi hp hu=>jY I k k2 hg hi hp hu C q;refine ng (hA.trans (I.ok.hd U)) x λ ord h' tk d po k=>J _ (ord.map (·.1)) h' tk d ?_ ((po.map _).trans pm) k;have:∀o:List (Int×Tok),PyProof.Rows.IntsAre (o.map λ p=>Value.int p.1 p.2) (o.map (·.1)):= λ o=>by induction o with
  |nil=>exact .nil
  |cons x r ih=>exact .cons _ _ ih
 simp_all
theorem qb:cT X (.builtin "len") (λ xs H Q=>∃p ns,xs=[.ref p]/\H p=some (kG X.w p ns)/\Q (.int (fX ns).length) H):=by
 intro pins s σ H xs us Q I r h;obtain⟨p,ns,rfl,C,q⟩:=h;obtain⟨u,rfl,J⟩:=r.one;cases J;obtain⟨⟨l,ep,t,x,pm⟩,_⟩:=I.hok p _ C;obtain⟨o,U,hx,hd⟩:=x.obj;have hs:(l.map eo).toArray.size=l.length:=by simp
 have hn:l.length=(fX ns).length:=by rw[<- pm.length_eq,List.length_map]
 have hf:=x.few;have hb:scanBound=4096:=rfl;refine call_len_set U hx hd (by rw[hs];exact x.fits) (by omega) ?_;rw[hs,hn];exact⟨.int _,H,I.tok _,⟨_,rfl⟩,q⟩
noncomputable def jQ(xs:List D):Option (List D):=match fC xs with
 |some ns=>if ns.length<64 then some ((b_ (fX ns)).map D.int)else none
 |none=>none
noncomputable def sJ(xs:List D):Option D:=match fC xs with
 |some ns=>if ns.length<4000 then some (.int (fX ns).length)else none
 |none=>none
noncomputable def Hz(K:PySem.W.Frag)(w:World)(te:TE):TE:= λ σ H Q=>te σ H λ x H1=>∃p ns,[x]=[V.ref p]/\(fG K H1 p (ns.map V.int)\/gx K H1 p (ns.map V.int))/\ns.length<4000/\∀l,H1 l=none->Q (.ref l) (upd H1 l (kG w l ns))
theorem zu(hm:X.mg "set"=none)(h:PE X e te)(o:Gl X "set":=by rfl)(C:X.calm=true:=by rfl)(he:starEach [e] X.env=[(false,eval e X.env)]:=by rfl):PE X (.Call (.Name "set" p) [e] [] pos) (Hz X.K X.w te):=
 cB (eC (wH C) o hm (by rfl) (bh h cb he) (by decide) (by rfl) he rfl) λ σ H Q h=>h
theorem nK{p2 I:Pos}(hm:X.mg "sorted"=none)(C:X.mg "set"=none)(h:DQ X e fq)(hg:Gl X "sorted":=by rfl)(U:Gl X "set":=by rfl)(hc:X.calm=true:=by rfl)(he:starEach [e] X.env=[(false,eval e X.env)]:=by rfl):
  DF X (.Call (.Name "sorted" p) [.Call (.Name "set" p2) [e] [] I] [] pos) (mQ jQ fq):=
 cB (dr (kf hc) hg hm PyProof.Rows.boot_sorted (bh (zu C h U hc he) cb rfl) (by decide) (by decide) rfl rfl) λ σ H Q ⟨c,δ,S,T,xs,ab,s,e,k⟩=>by
  obtain⟨ds,aa,e1,e⟩:=bind_some e;obtain⟨J,rfl⟩:=ba e;refine⟨c,δ,S,T,ds,aa,s,e1,λ q vs H1 l hq s1=>?_⟩;unfold jQ at J;split at J
  .rename_i ns en;split at J
   .rename_i hn;cases J;have ev:=jO (s1.st.left l) en;subst ev;refine⟨q,ns,rfl,hq,by omega,λ m hm=>⟨m,ns,rfl,bf,hn,λ m2 C=>?_⟩⟩;have s2:=(s1.drop l).grow (dt hm (kG X.w m ns));obtain⟨f1,f2,f3⟩:=s2.fresh C;have s3:=s2.hide (o:= .lst ((b_ (fX ns)).map V.int)) C;exact k m2 _ _ (by simp) (s3.stk ((gH _).append s3.st)) f1 f2 f3
   .cases J
  grind
theorem uX{p2 o:Pos}(hm:X.mg "len"=none)(I:X.mg "set"=none)(h:DQ X e fq)(hg:Gl X "len":=by rfl)(J:Gl X "set":=by rfl)(hc:X.calm=true:=by rfl)(he:starEach [e] X.env=[(false,eval e X.env)]:=by rfl):
  DE X (.Call (.Name "len" p) [.Call (.Name "set" p2) [e] [] o] [] pos) (mQ sJ fq):=
 cB (dr qb hg hm PySem.boot_len (bh (zu I h J hc he) cb rfl) (by decide) (by decide) rfl rfl) λ σ H Q ⟨c,δ,S,T,xs,aa,s,e,k⟩=>by
  obtain⟨ds,U,e1,e⟩:=bind_some e;obtain⟨C,rfl⟩:=ba e;refine⟨c,δ,S,T,ds,U,s,e1,λ q vs H1 l hq s1=>?_⟩;unfold sJ at C;split at C
  .rename_i ns en;split at C;. cases C;have ev:=jO (s1.st.left l) en;subst ev;refine⟨q,ns,rfl,hq,by omega,λ m hm=>⟨m,ns,rfl,bf,?_⟩⟩;have s2:=(s1.drop l).grow (dt hm (kG X.w m ns));exact k _ _ (s2.stk (.cons .mkI s2.st))
   .cases C
  grind
noncomputable def C8(xs ys:List D):Option (List D):=if xs.length+ys.length<=100000 then some (xs++ys)else none
end
inductive Hn where
 | th (x:D) | ls (j:Nat)
noncomputable def Gz(c:Ct)(o:DS)(S:List D)(σ:St)(T:List V)(H:Hp)(v:V):Hn->Prop
 | .th d=>Sl c o (d::S) σ (v::T) H
 | .ls i=>Sl c o S σ T H/\σ[i]?=some (some v)
inductive EE (f:M Hn) (σ:St) (H:Hp) (Q:VK):Prop
 | mk (c:Ct) (δ:DS) (S:List D) (T:List V) (h:Hn) (δ':DS) (s:Sl c δ S σ T H) (e:f δ=some (h,δ')) (q:∀v H',Gz c δ' S σ T H' v h->Q v H'):EE f σ H Q
noncomputable abbrev DH(X:Cx)(e:Expr)(f:M Hn):Prop:=PE X e (EE f)
noncomputable def Hn.ds:Hn->List D
 | .th z=>[z]
 | .ls _=>[]
noncomputable def Hn.vs(v:V):Hn->List V
 | .th _=>[v]
 | .ls _=>[]
theorem Hn.len(v:V)(h:Hn):(h.vs v).length=h.ds.length:=by cases h <;> rfl
noncomputable def qI(h:Hn):M D:= λ o=>match h with
 | .th d=>some (d,o)
 | .ls i=>match o[i]? with
  |some (.ow _ xs)=>some (.lst xs,o)
  |_=>none
theorem Gz.sl(k:Gz c o S σ T H v h):Sl c o (h.ds++S) σ (h.vs v++T) H:=by cases h with
 |th d=>exact k
 |ls i=>exact k.1
theorem kr{S:List D}{σ:St}{T:List V}{H:Hp}{v:V}{h:Hn}{d:D}(s:Sl c o S σ T H)(hs:∀d',h= .th d'->R (fg c o σ H) d' v)(U:∀i,h= .ls i->σ[i]?=some (some v))(e:qI h o=some (d,C)):o=C/\R H d v/\
  (∀xs,d= .lst xs->∃p vs,v= .ref p/\Rd H p (.lst vs)/\Rs (fg c o σ H) xs vs)/\((∀xs,d≠ .lst xs)->R (fg c o σ H) d v):=by cases h with
 |th d0=>cases e;have r:=hs d rfl;refine⟨rfl,r.mono br,λ xs ex=>?_,λ _=>r⟩;subst ex;obtain⟨p,vs,ev,h1,h2⟩:=r.lst;exact⟨p,vs,ev,Rd.mono br h1,h2⟩
 |ls i=>
  unfold qI at e;dsimp only at e;split at e;. rename_i b xs hx;cases e;obtain⟨p,vs,ev,I,J⟩:=s.own hx;rw[U i rfl]at ev;cases ev;exact⟨rfl,.mkL (.inl I) (J.mono br),λ ys ey=>by cases ey;exact⟨p,vs,rfl,.inl I,J⟩,λ z=>absurd rfl (z xs)⟩
  grind
section
variable {X:Cx} {a b e:Expr} {fa fb:M D} {ha' hb':M Hn} {fs:M (List D)} {pos p:Pos} {es:List Expr} {x:Str}
theorem iz(h:DE X e fa):DH X e (do let x<- fa;pure (.th x)):=cB h λ σ H Q ⟨c,C,S,T,h,I,s,e,k⟩=>by obtain⟨d,o,J,e⟩:=bind_some e;obtain⟨rfl,rfl⟩:=aV e;exact⟨c,C,S,T,d,o,s,J,λ v H' s'=>k v H' s'⟩
noncomputable def wU(i:Nat):M Hn:=do
 let _<- dC i
 pure (.ls i)
theorem rq(i:Nat){px:Pos}(C:X.N[i]?=some x:=by rfl)(I:oZ X.env.scope x:=by first | exact Or.inl rfl | exact Or.inr (Or.inl rfl) | exact Or.inr (Or.inr rfl))(hd:(x==("__debug__":Str))=false:=by decide)(o:(x==("__classdict__":Str))=false:=by decide):
  DH X (.Name x px) (wU i):=cB (cY C I hd o) λ σ H Q ⟨c,δ,S,T,h,J,s,e,k⟩=>by obtain⟨xs,U,e1,e⟩:=bind_some e;obtain⟨rfl,rfl⟩:=aV e;obtain⟨⟨b,hi⟩,rfl⟩:=bU e1;obtain⟨q,vs,ev,hq,hx⟩:=s.own hi;exact⟨_,ev,k _ H ⟨s,ev⟩⟩
noncomputable def Aj{α:Type}(g:D->D->Option α)(fa fb:M Hn):M α:=do
 let o<- fa
 let C<- fb
 let x<- qI o
 let y<- qI C
 lift (g x y)
structure KC (c:Ct) (δ:DS) (S:List D) (σ:St) (T:List V) (H:Hp) (x y:D) (v u:V):Prop where
 sl:Sl c δ S σ T H
 rx:R H x v
 ry:R H y u
 lx:∀xs,x=.lst xs->∃p vs,v=.ref p∧Rd H p (.lst vs)∧Rs (fg c δ σ H) xs vs
 ly:∀xs,y=.lst xs->∃p vs,u=.ref p∧Rd H p (.lst vs)∧Rs (fg c δ σ H) xs vs
theorem HL{g:D->D->Option α}{W:Ct->DS->List D->St->List V->VK->α->Prop}
  (hr:∀c o S σ T H x y v u z Q,KC c o S σ T H x y v u->g x y=some z->W c o S σ T Q z->r v u H Q):
  ∀σ H Q,(∃c o S T z C,Sl c o S σ T H/\Aj g ha' hb' o=some (z,C)/\W c C S σ T Q z)->rN r (EE ha') (EE hb') σ H Q:= λ σ H Q ⟨c,o,S,T,z,C,s,e,k⟩=>by obtain⟨J,U,e1,e⟩:=bind_some e;obtain⟨h2,I,e2,e⟩:=bind_some e;obtain⟨x,aa,e3,e⟩:=bind_some e;obtain⟨y,ab,e4,e⟩:=bind_some e;obtain⟨e5,rfl⟩:=ba e;refine⟨c,o,S,T,J,U,s,e1,λ v H1 k1=>?_⟩;refine⟨c,U,J.ds++S,J.vs v++T,h2,I,k1.sl,e2,λ u H2 k2=>?_⟩;have s2:=k2.sl;have s3:Sl c I S σ T H2:=(s2.drop (Hn.len u h2)).drop (Hn.len v J);obtain⟨rfl,r1,l1,_⟩:=kr s3 (v:=v) (h:=J) (λ d' ed=>by subst ed;exact(s2.drop (Hn.len u h2)).st.head) (λ i ei=>by subst ei;exact k1.2) e3;obtain⟨rfl,r2,l2,_⟩:=kr s3 (v:=u) (h:=h2) (λ d' ed=>by subst ed;exact s2.st.head) (λ i ei=>by subst ei;exact k2.2) e4;exact hr c I S σ T H2 x y v u z Q ⟨s3,r1,r2,l1,l2⟩ e5 k
noncomputable def ya:R2:= λ x y H Q=>∃l b xs zs,x= .ref l/\y= .ref b/\Rd H l (.lst xs)/\Rd H b (.lst zs)/\xs.length+zs.length<=sizeLine/\∀p,H p=none->Q (.ref p) (upd H p (.lst (xs++zs)))
theorem mZ:gW X (binaryOp .Add) ya:=by intro pins s σ H x y v u Q I J U h;obtain⟨l,b,xs,zs,rfl,rfl,hH,hB,hz,q⟩:=h;cases J;cases U;obtain⟨z,its,n,r,e⟩:=hH.ok I.hok;obtain⟨z2,o,n2,C,e2⟩:=hB.ok I.hok;refine PySem.P.add_list e e2 ?_ (by rw[List.size_toArray,List.size_toArray,<- r.length,<- C.length];omega);rw[show its.toArray++o.toArray=(its++o).toArray by simp];exact⟨.ref _,_,I.lnew (t':=s.toks) (r.append C) (by rw[List.length_append];exact hz),rfl,q _ I.fresh⟩
noncomputable def wj:D->D->Option (List D)
 | .lst xs,.lst ys=>C8 xs ys
 |_,_=>none
theorem sO(ha:DH X a ha')(hb:DH X b hb'):DF X (.BinOp a .Add b pos) (Aj wj ha' hb'):=cB (oM mZ ha hb) λ σ H Q ⟨c,U,S,T,z,o,s,e,k⟩=>by refine HL (W:= λ c o S σ T Q z=>∀l vs H',vs.length=z.length->Sl { c with Z:=upd c.Z l (.lst vs) } o (z++S) σ (vs++T) H'->c.Z l=none->l∉c.B->c.H0 l=none->Q (.ref l) H') (λ c U S σ T H x y v u z Q t I w=>?_) σ H Q ⟨c,U,S,T,z,o,s,e,k⟩;cases x with
 |lst xs=>cases y with
  |lst ys=>
   have C:(if xs.length+ys.length<=100000 then some (xs++ys)else none)=some z:=I;split at C
   .cases C;obtain⟨p1,vs,rfl,a1,a2⟩:=t.lx xs rfl;obtain⟨p2,us,rfl,b1,J⟩:=t.ly ys rfl;have hl:100000<sizeLine:=by decide
    refine⟨p1,p2,vs,us,rfl,rfl,a1,b1,by rw[a2.length,J.length];omega,λ q hq=>?_⟩;have s1:=t.sl.stk ((a2.append J).append t.sl.st);obtain⟨f1,f2,f3⟩:=s1.fresh hq;exact w q _ _ (by rw[List.length_append,List.length_append,a2.length,J.length]) (s1.hide hq) f1 f2 f3
   grind
  |_=>cases I
 |_=>cases I
noncomputable def G8(neg:Bool)(x y:D):Option D:=if g6 x y=true then(dz 9 x y).map λ b=> .bl (if neg then !b else b)else dA neg x y
theorem AA{x y:D}{v u:V}{z:D}{Q:VK}{neg:Bool}{r:R2}(t:KC c I S σ T H x y v u)(o:G8 neg x y=some z)(w:∀v H',Sl c I (z::S) σ (v::T) H'->Q v H')
  (hs:∀(b:Bool),g6 x y=true->dz 9 x y=some b->Q (.bl (if neg then !b else b)) H->r v u H Q)(hf:gZ v u=true->Q (.bl (if neg then !decide (v=u)else decide (v=u))) H->r v u H Q):r v u H Q:=by
 unfold G8 at o;split at o;. rename_i J;cases q:dz 9 x y with
  |none=>rw[q]at o;cases o
  |some b=>rw[q]at o;cases o;exact hs b J q (w _ _ (t.sl.stk (.cons .mkB t.sl.st)))
 .unfold dA at o;split at o
  .rename_i w1 z1 U e2;split at o
   .rename_i C;cases o;obtain⟨rfl,_⟩:=d5 t.rx U;obtain⟨rfl,_⟩:=d5 t.ry e2;exact hf C (w _ _ (t.sl.stk (.cons .mkB t.sl.st)))
   .cases o
  grind
theorem K1(w:∀σ H Q,tM (Aj g ha' hb') σ H Q->rN r (EE ha') (EE hb') σ H Q):∀σ H Q,vR (Aj g ha' hb' >>= lB) σ H Q->qx (rN r (EE ha') (EE hb')) σ H Q:= λ σ H Q ⟨c,C,S,T,d,I,s,e,k⟩=>by obtain⟨x,o,J,e⟩:=bind_some e;obtain⟨rfl,rfl⟩:=k_ e;exact w σ H _ ⟨c,C,S,T,.bl d,o,s,J,λ v H' s'=>⟨d,s'.st.head.bl,k _ s'.pop⟩⟩
theorem xK(I:bR k X.A)(J:DH X a ha')(U:DH X b hb'):DT X (.Compare a [.NotEq] [b] pos) (Aj (G8 true) ha' hb' >>= lB):=Cv (mM (zP (i3 I)) J U (se _)) (K1 λ σ H Q ⟨c,C,S,T,z,o,s,e,k⟩=>
 HL (W:= λ c o S σ T Q z=>∀v H',Sl c o (z::S) σ (v::T) H'->Q v H') (λ c C S σ T H x y v u z Q t eg w=>AA t eg w (λ b hs he q=> .inr ⟨H,x,y,b,λ _ _ h=>h,t.rx,t.ry,hs,he,q⟩) λ hs q=> .inl ⟨hs,q⟩) σ H Q ⟨c,C,S,T,z,o,s,e,k⟩)
inductive Ja (f:M (List D)) (σ:St) (H:Hp) (Q:List V->Hp->Prop):Prop
 | mk (c:Ct) (δ:DS) (S:List D) (T:List V) (ds:List D) (δ':DS) (s:Sl c δ S σ T H) (e:f δ=some (ds,δ')) (q:∀vs H',Sl c δ' S σ T H' -> Rs H' ds vs->Q vs H'):Ja f σ H Q
noncomputable abbrev Iy(X:Cx)(es:List Expr)(f:M (List D)):Prop:=PA X es (Ja f)
theorem De:Iy X [] (pure []):=Bu cb λ σ H Q ⟨c,C,S,T,d,o,s,e,k⟩=>by obtain⟨rfl,rfl⟩:=aV e;exact k [] H s .nil
noncomputable def oy(fa:M Hn)(fs:M (List D)):M (List D):=do
 let h<- fa
 let xs<- fs
 let x<- qI h
 pure (x::xs)
theorem qJ(I:DH X a ha')(J:Iy X es fs)(hs:starEach (a::es) X.env=(false,eval a X.env)::starEach es X.env:=by rfl):Iy X (a::es) (oy ha' fs):=Bu (bh I J hs) λ σ H Q ⟨c,U,S,T,d,aa,s,e,k⟩=>by obtain⟨h,o,e1,e⟩:=bind_some e;obtain⟨xs,C,e2,e⟩:=bind_some e;obtain⟨x,ab,e3,e⟩:=bind_some e;obtain⟨rfl,rfl⟩:=aV e;refine⟨c,U,S,T,h,o,s,e1,λ v H1 k1=>⟨c,o,h.ds++S,h.vs v++T,xs,C,k1.sl,e2,λ vs H2 s2 r2=>?_⟩⟩;have s3:=s2.drop (Hn.len v h);obtain⟨rfl,rv,_⟩:=kr s3 (v:=v) (h:=h) (λ d' ed=>by subst ed;exact s2.st.head) (λ i ei=>by subst ei;exact k1.2) e3;exact k (v::vs) H2 s3 (.cons rv r2)
noncomputable def flatOnly(d:D):Option D:=match flat d with
 |some _=>some d
 |none=>none
theorem zB{H H':Hp}(h:(flatOnly d).isSome=true)(r:R H d v):R H' d v:=by cases d with
 |non=>rw[r.non];rfl
 |bl b=>rw[r.bl];rfl
 |int b=>rw[r.int];rfl
 |str b=>rw[r.str];rfl
 |tup _=>cases h
 |lst _=>cases h
 |dct=>cases h
 |dic _=>cases h
 |dip _=>cases h
noncomputable def vf(n:Nat)(mf:List D->Option D)(ds:List D):Option D:=if ds.length=n then(mf ds).bind flatOnly else none
variable {k:Nat} {f:Addr} {fd:FuncData} {ps:List Str}
theorem wC{n:Nat}(F:cZ X.prog X.w X.K X.mg X.base d8 k f fd ps (qQ n mf))(hr:bR k X.A)(hm:X.mg x=some (.ref f))(hk:PySem.W.keepIn X.K (.ref f)=true)(hb:Binds X.K fd ps [])(ha:Iy X (a::es) fs)
  (hg:Gl X x:=by rfl)(J:(x==("__debug__":Str))=false:=by decide)(he:starEach (a::es) X.env=(false,eval a X.env)::starEach es X.env:=by rfl)(U:(backTo pos (starEach es X.env)).any (·.1)=false:=by rfl):
  DE X (.Call (.Name x p) (a::es) [] pos) (mC (vf n mf) fs):=cB (jF F hr hg hm hk hb .nil uF ha J he U) λ σ H Q ⟨c,δ,S,T,d,ab,s,e,k⟩=>by
 obtain⟨ds,aa,e1,e⟩:=bind_some e;obtain⟨C,rfl⟩:=ba e;refine⟨c,δ,S,T,ds,aa,s,e1,λ vs H1 s1 rs=>?_⟩;unfold vf at C;split at C;. rename_i hn;cases q:mf ds with
  |none=>rw[q]at C;cases C
  |some d0=>
   rw[q]at C;have I:flatOnly d0=some d:=C;have ed:d0=d:=by
    unfold flatOnly at I;split at I;. cases I;rfl
    .cases I
   subst ed;rw[List.append_nil];refine⟨rs.length.trans hn,λ _=>none,ds,d0,(λ a o z=>nomatch z),rs.mono λ b o h=>dG.mpr ⟨(λ⟨_,z⟩=>nomatch z),h⟩,q,λ v H' g r=>k v H' ?_⟩;have s2:=s1.grow g;exact s2.stk (.cons (zB (by rw[I];rfl) r) s2.st)
 grind
noncomputable def cutD(xs:List D)(lo C:Option Int):List D:=(xs.drop (HT.sIx xs.length 0 lo)).take (HT.sIx xs.length xs.length C-HT.sIx xs.length 0 lo)
theorem yw(h:Rs H ds vs)(lo I:Option Int):Rs H (cutD ds lo I) (nt vs lo I):=by
 unfold cutD nt;rw[h.length];have U:∀(n:Nat){ds:List D}{vs:List V},Rs H ds vs->Rs H (ds.drop n) (vs.drop n):=by intro n;induction n with
  |zero=>intro ds vs h;exact h
  |succ n o=>intro ds vs h;cases ds with
   |nil=>rw[h.inv0];exact .nil
   |cons d ds=>obtain⟨v,r,e,J,C⟩:=h.inv;subst e;exact o C
 have tk:∀(n:Nat){ds:List D}{vs:List V},Rs H ds vs->Rs H (ds.take n) (vs.take n):=by intro n;induction n with
  |zero=>intro ds vs h;exact .nil
  |succ n o=>intro ds vs h;cases ds with
   |nil=>rw[h.inv0];exact .nil
   |cons d ds=>obtain⟨v,r,e,J,C⟩:=h.inv;subst e;exact .cons J (o C)
 grind
theorem qC{items:Array Value}{vl vu:Value}{lo hi:Option Int}{prog:Program}{w:World}{A:Around}{E:Value->Shared->Prop}{s:Shared}{Q:Value->Shared->Prop}(C:PyProof.Rows.IsTup s.heap t items)(hs:s.heap.IsSliceOf sl vl vu .none)(pl:IsPart vl lo)(pu:IsPart vu hi)
  (hw:HT.sIx items.size 0 lo=0/\HT.sIx items.size items.size hi=items.size)(h:Q (.ref t) s):wpAny (model prog w) A (getItem (.ref t) (.ref sl)) Q E s:=by
 obtain⟨os,hos,hcs,hds⟩:=id hs;have hTs:s.TypeIs (.ref sl) "slice":=⟨os,hos,hcs⟩;unfold getItem;try with_reducible refine wpAny_holding ?_
 refine wpAny_bind (wpAny_sequenceKey C.typeIs (by decide) ?_);refine wpAny_bind (wpAny_callSpecial?_slot (name:=Str.ofString "__getitem__") C.typeIs PyProof.Rows.slot_tuple_getitem (wpAny_call_entry PyProof.Rows.slot_tuple_getitem C.typeIs PyProof.Rows.entry_tuple_getitem ?_ (PyProof.Rows.args_tuple_getitem _ _)));show wpAny (model prog w) _ (Builtin.Tuple.tupleItemsOf (.ref t) >>= _) _ _ s;refine wpAny_bind (PyProof.Rows.tupleItemsOf_ C (wpAny_bind (wpAny_typeOf hTs ?_)));refine wpAny_bind (HT.sliceApplied_gen hs pl pu ?_);have hyes:(((HT.sIx items.size 0 lo:Nat):Int)==0&&(1:Int)==1&&(HT.sIx items.size items.size hi-HT.sIx items.size 0 lo)==items.size)=true:=by rw[hw.1,hw.2];simp
 show wpAny (model prog w) _ (if(((HT.sIx items.size 0 lo:Nat):Int)==0&&1==1&&(HT.sIx items.size items.size hi-HT.sIx items.size 0 lo)==items.size)=true then _ else _) _ _ s;rw[if_pos hyes];refine wpAny_bind ?_;refine wpAny_bind (wpAny_typeOf C.typeIs (wpAny_pure ?_));exact wpAny_bind (wpAny_rule (wpAny_bind (wpAny_pure (wpAny_pure ⟨_,rfl,wpAny_pure h⟩))))
end
section
variable {X:Cx} {pins:List (Addr × Obj)} {σ:St} {H:Hp} {s:Shared} {h':Heap}
theorem _root_.L2.Inv.turnedN{fp:List Addr}{p:Addr}{o:HO}(I:Inv X pins σ H s)(k:∀b o,b∉fp->s.heap.get? b=some o->h'.get? b=some o)(hf:∀b∈fp,gh X pins H b)(hp:s.heap.objs.size<=p)(new:cu X.prog X.w (upd H p o) h' p o):
  Inv X pins σ (upd H p o) { s with heap:=h',toks:=t' }:=by
 have C:H p=none:=I.hok.fresh hp;have aa:∀b u,H b=some u->b∉fp:= λ b u e z=>by rw[(hf b z).1]at e;cases e
 refine I.step (g':=s.gens) (d':=s.drawn) (ch:=fp) (λ b U=>?_) (λ b o _ _ J e _=>k b o J e) (λ b o _ _ J e _=>⟨o.slots,k b o J e⟩) (λ b o _ e n=>?_)
  (λ b o J e=>⟨o,k b o J e⟩) (λ b xs e=>by rw[aZ (bP e C)];exact e) (λ b o u e=>by rw[aZ (bP e C)];exact e) (λ b ps e=>⟨#[],by rw[aZ (bP e C),e];simp⟩) (λ m hm=>?_) (λ b u e=>?_) I.bare;. obtain⟨_,f1,_,f3,f4,f5⟩:=hf b U;exact⟨f3,f1,f4,f5⟩
 .rw[aZ λ z=>by subst z;exact Nat.lt_irrefl _ (Nat.lt_of_lt_of_le (Heap.lt_size e) hp)];exact n
 .obtain⟨o',es,ep,ho,r⟩:=hm;exact⟨o',es,ep,k _ o' (λ z=>(hf _ z).2.1 rfl) ho,r⟩
 .by_cases U:b=p;. subst U;rw[bf]at e;cases e;exact new
  .rw[aZ U]at e;refine(I.hok b u e).stay (λ c v J q=>k c v ?_ q) (λ c q=>by rw[aZ (bP q C)];exact q) (λ c xs q=>by rw[aZ (bP q C)];exact q) λ c ob v q=>by rw[aZ (bP q C)];exact q
   grind
theorem _root_.L2.Inv.turnedL{fp:List Addr}(I:Inv X pins σ H s)(k:∀b o,b∉fp->s.heap.get? b=some o->h'.get? b=some o)(hf:∀b∈fp,gh X pins H b):Inv X pins σ H { s with heap:=h',toks:=t' }:=by
 have U:∀b u,H b=some u->b∉fp:= λ b u e z=>by rw[(hf b z).1]at e;cases e
 refine I.step (g':=s.gens) (d':=s.drawn) (ch:=fp) (λ b hb=>?_) (λ b o _ _ C e _=>k b o C e) (λ b o _ _ C e _=>⟨o.slots,k b o C e⟩) (λ _ _ _ _ n=>n)
  (λ b o C e=>⟨o,k b o C e⟩) (λ _ _ e=>e) (λ _ _ _ e=>e) (λ b ps e=>⟨#[],by rw[e];simp⟩) (λ m hm=>?_) (λ b u e=>?_) I.bare;. obtain⟨_,f1,_,f3,f4,f5⟩:=hf b hb;grind
 .obtain⟨J,es,ep,ho,r⟩:=hm;exact⟨J,es,ep,k _ J (λ z=>(hf _ z).2.1 rfl) ho,r⟩
 .refine(I.hok b u e).stay (λ c v C q=>k c v ?_ q) (λ _ q=>q) λ _ _ q=>q;grind
noncomputable def Sq(b:Bool)(K:PySem.W.Frag)(H:Hp)(q:Addr)(xs:List V):Prop:=match b with
 |true=>gx K H q xs
 |false=>fG K H q xs
theorem _root_.L2.Inv.sq(I:Inv X pins σ H s)(h:Sq b X.K H q xs):∃its:List Value,Vals xs its/\lu b s.heap q its.toArray:=by cases b with
 |true=>obtain⟨its,r,p,_⟩:=I.tuple h;exact⟨its,r,p⟩
 |false=>obtain⟨its,r,p,_⟩:=I.list h;exact⟨its,r,p.isList⟩
theorem _root_.L2.Inv.sq_inj(I:Inv X pins σ H s)(h:Sq b X.K H q xs)(h':Sq b X.K H q ys):xs=ys:=by cases b with
 |true=>exact I.tuple_inj h h'
 |false=>exact I.list_inj h h'
noncomputable def Km(K:PySem.W.Frag)(b1 o:Bool)(C I:Addr):It:=
 ⟨λ i H=>∃xs ys x y,Sq b1 K H C xs/\Sq o K H I ys/\xs[i]?=some x/\ys[i]?=some y,
   λ i H x H'=>∃p v u,x= .ref p/\H p=none/\H'=upd H p (.tup [v,u])/\(∀xs,Sq b1 K H C xs->xs[i]?=some v)/\∀ys,Sq o K H I ys->ys[i]?=some u,
   λ i H=>∃xs ys,Sq b1 K H C xs/\Sq o K H I ys/\(xs.length<=i\/ys.length<=i)⟩
noncomputable def Zt(b1 I:Bool)(z TI TO o C J U:Addr)(k:Nat)(h:Heap):Prop:=IsZip h z TI TO .none/\IsPair h TI (.ref o) (.ref C)/\(∃a c,IsPair h TO a c)/\lA b1 h o J k/\lA I h C U k
theorem yb{pt:Pos}(b1 b2:Bool){z TI TO J U l1 l2:Addr}(D:Hi z TI TO J U l1 l2)(au:l1∉[z,TI,TO,J,U])(av:l2∉[z,TI,TO,J,U]):
  Turn P w K (.Tuple es x1 pt) (Km K b1 b2 l1 l2) [z,TI,TO,J,U] z (Zt b1 b2 z TI TO J U l1 l2) where
 mem:=by simp
 obj:= λ i h st b C=>by
  obtain⟨s1,s2,⟨a,c,s3⟩,s4,s5⟩:=st;have af:∀{bb:Bool}{it l:Addr},lA bb h it l i->∃o,h.get? it=some o/\∀v,o.data≠ .cell v:= λ{bb it l} q=>by cases bb with
   |true=>obtain⟨o,e,_,d⟩:=q;exact⟨o,e,λ v z=>by rw[d]at z;cases z⟩
   |false=>obtain⟨o,e,_,d⟩:=q;exact⟨o,e,λ v z=>by rw[d]at z;cases z⟩
  simp only[List.mem_cons,List.not_mem_nil,or_false]at C;rcases C with e|e|e|e|e <;> subst e
  .exact⟨_,s1,λ v q=>by cases q⟩
  .exact⟨_,s2,λ v q=>by cases q⟩
  .exact⟨_,s3,λ v q=>by cases q⟩
  .exact af s4
  .exact af s5
 keep:= λ i h h' st k=>by obtain⟨s1,s2,⟨a,c,s3⟩,s4,s5⟩:=st;exact⟨k z (by simp) _ s1,k TI (by simp) _ s2,⟨a,c,k TO (by simp) _ s3⟩,s4.at (k J (by simp)),s5.at (k U (by simp))⟩
 item:=by
  intro X hP hw hK hc i pins s σ H E I hf st hg;subst hP hw hK;obtain⟨xs,ys,x,y,aa,ab,hx,hy⟩:=hg;obtain⟨ah,r1,p1⟩:=I.sq aa;obtain⟨ai,r2,p2⟩:=I.sq ab;obtain⟨u1,e1,aj⟩:=r1.get hx;obtain⟨u2,e2,ak⟩:=r2.get hy;obtain⟨s1,s2,s3,s4,s5⟩:=st;refine xF D ⟨s1,s2,s3,s4,s5,p1,p2⟩ (by simpa using e1) (by simpa using e2) λ h' ao hp kp=>?_;obtain⟨t1,t2,⟨a,c,t3⟩,t4,t5,_,_⟩:=ao;have aq:∀b o,b∉[z,TI,TO,J,U]->s.heap.get? b=some o->h'.get? b=some o:= λ b o C e=>kp b o (λ hm=>C (by simp only[List.mem_cons,List.not_mem_nil,or_false]at hm|-;rcases hm with e|e|e|e <;> simp[e])) e;refine⟨.ref s.heap.objs.size,rfl,wpAny_letOwnedTupleGo_zip (s:={ s with heap:=h' }) t1 λ h2 z2 sb=>?_⟩;obtain⟨n1,n2,n3,n4,n5,n6,n7,n8,n9,aw,m1,m2,m3,m4,m5,m6,m7,m8⟩:=D.ne;have ag:z<s.heap.objs.size:=Heap.lt_size s1;have ae:IsPair h2 s.heap.objs.size u1 u2:=sb.extBut _ _ (Nat.ne_of_gt ag) hp;refine⟨.ref s.heap.objs.size,upd H s.heap.objs.size (.tup [x,y]),I.turnedN (t':=s.toks) (fp:=[z,TI,TO,J,U]) (λ b o C e=>sb.extBut _ _ (λ q=>C (by rw[q];simp)) (aq b o C e)) hf (Nat.le_refl _) ⟨by show 2<=_;decide,[u1,u2],.cons aj (.cons ak .nil),⟨_,ae,rfl,_,rfl⟩,_,ae,rfl⟩,rfl,
   ⟨_,x,y,rfl,I.fresh,rfl,λ zs hz=>by rw[I.sq_inj hz aa];exact hx,λ zs hz=>by rw[I.sq_inj hz ab];exact hy⟩,⟨z2,sb.extBut _ _ n1 t2,⟨a,c,sb.extBut _ _ n2 t3⟩,t4.at λ o e=>sb.extBut _ _ n3 e,t5.at λ o e=>sb.extBut _ _ n4 e⟩,λ b C=>?_⟩;have ar:=(hf b C).1;rw[aZ λ q=>?_];. exact ar
  .have:b<s.heap.objs.size:=by
    simp only[List.mem_cons,List.not_mem_nil,or_false]at C;rcases C with e|e|e|e|e <;> subst e
    .exact ag
    .exact Heap.lt_size s2
    .obtain⟨_,_,s3⟩:=s3;exact Heap.lt_size s3
    .exact s4.lt
    .exact s5.lt
   rw[q]at this;exact Nat.lt_irrefl _ this
 done:=by intro X hP hw hK hc i pins s σ H E I hf st hg;subst hP hw hK;obtain⟨xs,ys,aa,ab,hx⟩:=hg;obtain⟨ah,r1,p1⟩:=I.sq aa;obtain⟨ai,r2,p2⟩:=I.sq ab;obtain⟨s1,s2,s3,s4,s5⟩:=st;have l1:=r1.length;have l2:=r2.length;refine Ba (I.ok.hd hc) D ⟨s1,s2,s3,s4,s5,p1,p2⟩ (hx.elim (λ q=> .inl (by simp;omega)) λ q=> .inr (by simp;omega)) λ h' kp=>⟨rfl,I.turnedL (t':=s.toks) (fp:=[z,TI,TO,J,U]) (λ b o C e=>kp b o (λ hm=>C (by simp only[List.mem_cons,List.not_mem_nil,or_false]at hm|-;rcases hm with e|e|e|e <;> simp[e])) e) hf⟩
 self:= λ A i s Q E st h=>wpAny_pyIter_zip st.1 h
noncomputable def J4(K:PySem.W.Frag)(b:Bool)(l:Addr):It:=
 ⟨λ i H=>∃xs x,Sq b K H l xs/\xs[i]?=some x,
   λ i H x H'=>∃p v,x= .ref p/\H p=none/\H'=upd H p (.tup [.int i,v])/\∀xs,Sq b K H l xs->xs[i]?=some v,
   λ i H=>∃xs,Sq b K H l xs/\xs.length<=i⟩
noncomputable def Et(b:Bool)(e it l:Addr)(k:Nat)(h:Heap):Prop:=(∃old,IsEnum h e it k old)/\lA b h it l k
theorem DN{s:Shared}{es:List Expr}{C}{pos:Pos}{e it T:Addr}{i:Int}{v:Value}{Q:Unit->Shared->Prop}(he:IsEnumOut s.heap e it i v T)
  (I:∀h',(∃old,IsEnum h' e it i old)->Heap.SameBut e s.heap h'->Q () { s with heap:=h' }):wpAny (model prog w) A (letOwnedTupleGo (.Tuple es C pos) (.ref e) (.ref T)) Q E s:=by
 refine wpAny_bind (wpAny_load he ?_);dsimp only;split;. exact wpAny_setField_rec he (by simp) λ h' o J=>I h' ⟨v,o⟩ J
 grind
theorem vS(b:Bool){e it l:Addr}(aa:e≠it)(ae:l≠e)(af:l≠it):Turn P w K (.Tuple es x1 pt) (J4 K b l) [e,it] e (Et b e it l) where
 mem:=by simp
 obj:= λ i h st c hc=>by
  obtain⟨⟨old,s1⟩,s2⟩:=st;simp only[List.mem_cons,List.not_mem_nil,or_false]at hc;rcases hc with q|q <;> subst q
  .exact⟨_,s1,λ v q=>by cases q⟩
  .cases b with
   |true=>obtain⟨o,e,_,d⟩:=s2;exact⟨o,e,λ v z=>by rw[d]at z;cases z⟩
   |false=>obtain⟨o,e,_,d⟩:=s2;exact⟨o,e,λ v z=>by rw[d]at z;cases z⟩
 keep:= λ i h h' st k=>by obtain⟨⟨old,s1⟩,s2⟩:=st;exact⟨⟨old,k e (by simp) _ s1⟩,s2.at (k it (by simp))⟩
 item:=by
  intro X hP hw hK hc i pins s σ H E I hf st hg;subst hP hw hK;obtain⟨xs,x,C,hx⟩:=hg;obtain⟨ag,r1,p1⟩:=I.sq C;obtain⟨u1,e1,ah⟩:=r1.get hx;obtain⟨s1,s2⟩:=st;refine vJ aa ae af ⟨s1,s2,p1⟩ (by simpa using e1) λ h' t1 t2 t3 hp kp=>?_;have ab:e<s.heap.objs.size:=by obtain⟨_,s1⟩:=s1;exact Heap.lt_size s1
  refine⟨.ref s.heap.objs.size,rfl,DN (s:={ s with heap:=h',toks:=s.toks+1 }) t1 λ h2 z2 sb=>?_⟩;have U:IsPair h2 s.heap.objs.size (.int i s.toks) u1:=sb.extBut _ _ (Nat.ne_of_gt ab) hp;refine⟨.ref s.heap.objs.size,upd H s.heap.objs.size (.tup [.int i,x]),I.turnedN (t':=s.toks+1) (fp:=[e,it]) (λ c o J q=>sb.extBut _ _ (λ z=>J (by rw[z];simp)) (kp c o (λ z=>J (by rw[z];simp)) (λ z=>J (by rw[z];simp)) q)) hf (Nat.le_refl _) ⟨by show 2<=_;decide,[.int i s.toks,u1],.cons ⟨_,rfl⟩ (.cons ah .nil),⟨_,U,rfl,_,rfl⟩,_,U,rfl⟩,rfl,
   ⟨_,x,rfl,I.fresh,rfl,λ zs hz=>by rw[I.sq_inj hz C];exact hx⟩,⟨by obtain⟨old,z2⟩:=z2;exact⟨old,by simpa using z2⟩,t2.at λ o q=>sb.extBut _ _ aa.symm q⟩,λ c J=>?_⟩;have ai:=(hf c J).1;rw[aZ λ q=>?_];. exact ai
  .have:c<s.heap.objs.size:=by
    simp only[List.mem_cons,List.not_mem_nil,or_false]at J;rcases J with e|e <;> subst e
    .exact ab
    .exact s2.lt
   rw[q]at this;exact Nat.lt_irrefl _ this
 done:=by intro X hP hw hK hc i pins s σ H E I hf st hg;subst hP hw hK;obtain⟨xs,C,hx⟩:=hg;obtain⟨ag,r1,p1⟩:=I.sq C;obtain⟨s1,s2⟩:=st;have l1:=r1.length;exact yy (I.ok.hd hc) ⟨s1,s2,p1⟩ (by simp;omega) λ h' kp=>⟨rfl,I.turnedL (t':=s.toks) (fp:=[e,it]) (λ c o J q=>kp c o (λ z=>J (by rw[z];simp)) q) hf⟩
 self:= λ A i s Q E st h=>by obtain⟨⟨old,s1⟩,_⟩:=st;exact wpAny_pyIter_enum s1 h
end
section
variable {X:Cx} {a b c0 e:Expr} {fa fb fc:M D} {fs:M (List D)} {pos p p2 pt:Pos} {es:List Expr} {x:Str} {x1:Nat}
noncomputable def nh:D->Option (Bool × List D)
 | .tup ds=>some (true,ds)
 | .lst ds=>some (false,ds)
 | _=>none
theorem gy {c:Ct} {δ:DS} {σ:St} {H:Hp} {K:PySem.W.Frag} {d:D} {v:V} {b:Bool} {xs:List D} (r:R (fg c δ σ H) d v) (e:nh d=some (b,xs)):∃p vs,v=.ref p∧Sq b K H p vs∧Rs (fg c δ σ H) xs vs:= by
 cases d with
 | tup ds=>
  cases e
  obtain ⟨p,vs,ev,h1,h2⟩:=r.tup
  exact ⟨p,vs,ev,.of (br _ _ h1),h2⟩
 | lst ds=>
  cases e
  obtain ⟨p,vs,ev,h1,h2⟩:=r.lst
  exact ⟨p,vs,ev,.inl (Rd.mono br h1),h2⟩
 | _=>cases e
noncomputable def iu:List D->List D->List D
 | x :: xs,y :: ys=>.tup [x,y] :: iu xs ys
 | _,_=>[]
theorem qe:∀{xs ys:List D} {i:Nat} {d:D},(iu xs ys)[i]? = some d->∃x y,xs[i]? = some x∧ys[i]? = some y∧d=.tup [x,y]
 | x :: xs,y :: ys,0,d,h=>by cases h;exact ⟨x,y,rfl,rfl,rfl⟩
 | x :: xs,y :: ys,i + 1,d,h=>by
  obtain ⟨x',y',h1,h2,h3⟩:=qe (xs:=xs) (ys:=ys) (i:=i) (by simpa [iu] using h)
  exact ⟨x',y',by simpa using h1,by simpa using h2,h3⟩
 | [],_,i,d,h=>by simp [iu] at h
 | _ :: _,[],i,d,h=>by simp [iu] at h
theorem qu:∀(xs ys:List D),(iu xs ys).length=min xs.length ys.length
 | x :: xs,y :: ys=>by simp [iu,qu xs ys,Nat.add_min_add_right]
 | [],_=>by simp [iu]
 | _ :: _,[]=>by simp [iu]
theorem E2 {ta:TA} (hg:Gl X "zip") (hm:X.mg "zip" = none) (ha:PA X [a,b] ta) (hs:starEach [a,b] X.env=[(false,eval a X.env),(false,eval b X.env)]:=by rfl) (hs2:starEach [b] X.env=[(false,eval b X.env)]:=by rfl) :
  PI X (.Tuple es x1 pt) (.Call (.Name "zip" p) [a,b] [] pos) (fun σ H R=>ta σ H fun vs H1=>∃b1 b2 l1 l2 xs ys,vs=[.ref l1,.ref l2]∧Sq b1 X.K H1 l1 xs∧Sq b2 X.K H1 l2 ys∧R (Km X.K b1 b2 l1 l2) H1):= by
 intro pins s σ H R I h
 refine PyProof.Rows.Call_ (gf I hg hm (show bootBuiltins "zip" = some (.type "zip") by decide +kernel) (PyProof.Rows.callWith_type1 (cp (ha pos pins s σ H _ I h) fun us s1 ⟨vs,H1,I1,r1,q1⟩=>?_) (by rw [hs,hs2]) (by rw [hs2];rfl)))
 obtain ⟨b1,b2,l1,l2,xs,ys,e,h1,h2,q⟩:=q1
 subst e
 obtain ⟨u1,u2,rfl,ru1,ru2⟩:=r1.two
 cases ru1
 cases ru2
 obtain ⟨i1s,rv1,p1⟩:=I1.sq h1
 obtain ⟨i2s,rv2,p2⟩:=I1.sq h2
 refine Cc p1 p2 fun h' z TI TO i1 i2 D st kp hnew=>?_
 have I2:Inv X pins σ H1 { s1 with heap:=h' }:=I1.kept (t':=s1.toks) kp
 obtain ⟨t1,t2,t3,t4,t5,_,_⟩:=st
 refine wpAny_pyIter_zip (s:={ s1 with heap:=h' }) t1 ⟨z,[z,TI,TO,i1,i2],_,_,H1,rfl,I2,yb b1 b2 D ?_ ?_,⟨t1,t2,t3,t4,t5⟩,fun c hc=>?_,q⟩
 .intro hc
  exact Nat.lt_irrefl _ (Nat.lt_of_lt_of_le p1.lt (hnew _ hc))
 .intro hc
  exact Nat.lt_irrefl _ (Nat.lt_of_lt_of_le p2.lt (hnew _ hc))
 .exact I1.fpOk (hnew c hc) (I1.hok.fresh (hnew c hc))
noncomputable def j5:List D->Option jB
 | [x,y]=>match nh x,nh y with
  | some (_,xs),some (_,ys)=>some (bF (iu xs ys))
  | _,_=>none
 | _=>none
theorem BB {K:PySem.W.Frag} {b1 b2:Bool} {dx dy:D} {xs ys:List D} {l1 l2:Addr} (e1:nh dx=some (b1,xs)) (e2:nh dy=some (b2,ys)):Hg (Km K b1 b2 l1 l2) (bF (iu xs ys)) [dx,dy] [.ref l1,.ref l2]:=fun c δ S σ T H i s=>by
 obtain ⟨p1,vs,q1,h1,r1⟩:=gy (K:=K) s.st.head e1
 obtain ⟨p2,us,q2,h2,r2⟩:=gy (K:=K) s.st.tail.head e2
 cases q1
 cases q2
 refine ⟨fun act d ha hd=>?_,fun ei _=>⟨vs,us,h1,h2,?_⟩⟩
 .obtain ⟨x,y,g1,g2,rfl⟩:=qe (eZ ha hd)
  obtain ⟨v,gv,rv⟩:=r1.get g1
  obtain ⟨u,gu,ru⟩:=r2.get g2
  refine ⟨⟨vs,us,v,u,h1,h2,gv,gu⟩,fun z H' yl=>?_⟩
  obtain ⟨q,v',u',rfl,hq,rfl,y1,y2⟩:=yl
  have ev:=y1 vs h1
  have eu:=y2 us h2
  rw [gv] at ev;cases ev
  rw [gu] at eu;cases eu
  exact (s.stk (.cons rv (.cons ru s.st))).newTup (ds:=[x,y]) (vs:=[v,u]) rfl hq
 .rw [r1.length,r2.length]
  have:(bF (iu xs ys)).1.length=min xs.length ys.length:=by simp [bF,qu]
  omega
theorem Gg (hm:X.mg "zip" = none) (ha:DA X [a,b] fs) (hg:Gl X "zip":=by rfl) (hs:starEach [a,b] X.env=[(false,eval a X.env),(false,eval b X.env)]:=by rfl) (hs2:starEach [b] X.env=[(false,eval b X.env)]:=by rfl) :
  DI X (.Tuple es x1 pt) (.Call (.Name "zip" p) [a,b] [] pos) (mC j5 fs):=uU (E2 hg hm ha hs hs2) fun σ H Rr ⟨c,δ,S,T,it,δ',s,e,k⟩=>by
 obtain ⟨ds,δ1,e1,e⟩:=bind_some e
 obtain ⟨e2,rfl⟩:=ba e
 refine ⟨c,δ,S,T,ds,δ1,s,e1,fun vs H1 l s1=>?_⟩
 unfold j5 at e2
 split at e2
 .rename_i dx dy
  split at e2
  .rename_i b1 xs b2 ys q1 q2
   cases e2
   obtain ⟨v,u,rfl,r1,r2⟩:=Jj (s1.st.left l)
   obtain ⟨p1,vs,rfl,h1,_⟩:=gy (K:=X.K) r1 q1
   obtain ⟨p2,us,rfl,h2,_⟩:=gy (K:=X.K) r2 q2
   exact ⟨b1,b2,p1,p2,vs,us,rfl,h1,h2,k _ [dx,dy] [.ref p1,.ref p2] H1 rfl (BB q1 q2) s1⟩
  .cases e2
 .cases e2
noncomputable def j4:Nat->List D->List D
 | _,[]=>[]
 | n,x :: xs=>.tup [.int n,x] :: j4 (n + 1) xs
theorem qM:∀{xs:List D} {n i:Nat} {d:D},(j4 n xs)[i]? = some d->∃x,xs[i]? = some x∧d=.tup [.int ((n + i:Nat):Int),x]
 | x :: xs,n,0,d,h=>by cases h;exact ⟨x,rfl,rfl⟩
 | x :: xs,n,i + 1,d,h=>by
  obtain ⟨x',h1,h2⟩:=qM (xs:=xs) (n:=n + 1) (i:=i) (by simpa [j4] using h)
  exact ⟨x',by simpa using h1,by rw [h2];congr 4;omega⟩
 | [],n,i,d,h=>by simp [j4] at h
theorem pb:∀(xs:List D) (n:Nat),(j4 n xs).length=xs.length
 | [],_=>rfl
 | x :: xs,n=>by simp [j4,pb xs]
theorem BL {ta:TA} (hg:Gl X "enumerate") (hm:X.mg "enumerate" = none) (ha:PA X [a] ta) (hs:starEach [a] X.env=[(false,eval a X.env)]:=by rfl) :
  PI X (.Tuple es x1 pt) (.Call (.Name "enumerate" p) [a] [] pos) (fun σ H R=>ta σ H fun vs H1=>∃b1 l1 xs,vs=[.ref l1]∧Sq b1 X.K H1 l1 xs∧R (J4 X.K b1 l1) H1):= by
 intro pins s σ H R I h
 refine PyProof.Rows.Call_ (gf I hg hm (show bootBuiltins "enumerate" = some (.type "enumerate") by decide +kernel) (PyProof.Rows.callWith_type1 (cp (ha pos pins s σ H _ I h) fun us s1 ⟨vs,H1,I1,r1,q1⟩=>?_) hs rfl))
 obtain ⟨b1,l1,xs,e,h1,q⟩:=q1
 subst e
 obtain ⟨u1,rfl,ru1⟩:=r1.one
 cases ru1
 obtain ⟨i1s,rv1,p1⟩:=I1.sq h1
 refine yu p1 fun h' e it n1 n2 n3 st kp f1 f2=>?_
 have I2:Inv X pins σ H1 { s1 with heap:=h' }:=I1.kept (t':=s1.toks) kp
 obtain ⟨⟨old,t1⟩,t2,_⟩:=st
 refine wpAny_pyIter_enum (s:={ s1 with heap:=h' }) t1 ⟨e,[e,it],_,_,H1,rfl,I2,vS b1 n1 n2 n3,⟨⟨old,t1⟩,t2⟩,fun c hc=>?_,q⟩
 have hc':s1.heap.objs.size ≤ c:= by
  simp only [List.mem_cons,List.not_mem_nil,or_false] at hc
  rcases hc with z | z <;> rw [z] <;> assumption
 exact I1.fpOk hc' (I1.hok.fresh hc')
noncomputable def nT:List D->Option jB
 | [x]=>match nh x with
  | some (_,xs)=>some (bF (j4 0 xs))
  | _=>none
 | _=>none
theorem C_ {K:PySem.W.Frag} {b1:Bool} {dx:D} {xs:List D} {l1:Addr} (e1:nh dx=some (b1,xs)):Hg (J4 K b1 l1) (bF (j4 0 xs)) [dx] [.ref l1]:=fun c δ S σ T H i s=>by
 obtain ⟨p1,vs,q1,h1,r1⟩:=gy (K:=K) s.st.head e1
 cases q1
 refine ⟨fun act d ha hd=>?_,fun ei _=>⟨vs,h1,?_⟩⟩
 .obtain ⟨x,g1,rfl⟩:=qM (eZ ha hd)
  obtain ⟨v,gv,rv⟩:=r1.get g1
  refine ⟨⟨vs,v,h1,gv⟩,fun z H' yl=>?_⟩
  obtain ⟨q,v',rfl,hq,rfl,y1⟩:=yl
  have ev:=y1 vs h1
  rw [gv] at ev;cases ev
  rw [Nat.zero_add]
  exact (s.stk (.cons .mkI (.cons rv s.st))).newTup (ds:=[.int i,x]) (vs:=[.int i,v]) rfl hq
 .rw [r1.length]
  have:(bF (j4 0 xs)).1.length=xs.length:=by simp [bF,pb]
  omega
theorem uy (hm:X.mg "enumerate" = none) (ha:DA X [a] fs) (hg:Gl X "enumerate":=by rfl) (hs:starEach [a] X.env=[(false,eval a X.env)]:=by rfl) :
  DI X (.Tuple es x1 pt) (.Call (.Name "enumerate" p) [a] [] pos) (mC nT fs):=uU (BL hg hm ha hs) fun σ H Rr ⟨c,δ,S,T,it,δ',s,e,k⟩=>by
 obtain ⟨ds,δ1,e1,e⟩:=bind_some e
 obtain ⟨e2,rfl⟩:=ba e
 refine ⟨c,δ,S,T,ds,δ1,s,e1,fun vs H1 l s1=>?_⟩
 unfold nT at e2
 split at e2
 .rename_i dx
  split at e2
  .rename_i b1 xs q1
   cases e2
   obtain ⟨v,rfl,r1⟩:=wy (s1.st.left l)
   obtain ⟨p1,vs,rfl,h1,_⟩:=gy (K:=X.K) r1 q1
   exact ⟨b1,p1,vs,rfl,h1,k _ [dx] [.ref p1] H1 rfl (C_ q1) s1⟩
  .cases e2
 .cases e2
theorem pv:∀{ts:List Ty} {us:List Value},Vals (ts.map fun T=>V.ty T.name) us->us=ts.map fun T=>Value.type T.name
 | [],us,r=>by cases r;rfl
 | t :: ts,us,r=>by
  rw [List.map_cons] at r
  cases r with
  | cons r1 r2=>rw [List.map_cons,pv r2];cases r1;rfl
noncomputable def wI (ts:List Ty):TA:=fun _ H Q=>Q (ts.map fun T=>V.ty T.name) H
theorem EG (T:Ty) {ts:List Ty} {y:Str} {py:Pos} (hmy:X.mg y=none) (h:PA X es (wI ts)) (hv:bootBuiltins y=some (.type T.name):=by decide +kernel) (hgy:Gl X y:=by rfl) (hn:y ≠ "__name__":=by decide) (hd:(y == ("__debug__":Str))=false:=by decide)
  (hs:starEach (.Name y py :: es) X.env=(false,eval (.Name y py) X.env) :: starEach es X.env:=by rfl):PA X (.Name y py :: es) (wI (T :: ts)):=bh (D8 T hgy hmy hv hn hd) h hs
theorem FC:PA X [] (wI []):=cb
noncomputable def ph (ts:List Ty):HO:=.frz { cls:=.type "tuple",data:=.seq (ts.map fun T=>Value.type T.name).toArray } (.tup (ts.map fun T=>V.ty T.name))
theorem Gq {ts:List Ty} (h:PA X es (wI ts)) (hl:ts.length ≤ 100:=by decide):PE X (.Tuple es x1 pos) (fun σ H Q=>∀p,H p=none->Q (.ref p) (upd H p (ph ts))):=fun pins s σ H Q I hq=>by
 refine wpAny_Tuple_spliced (cp (h pos pins s σ H (fun vs H'=>vs=(ts.map fun T=>V.ty T.name)∧H' = H) I ⟨rfl,rfl⟩) fun us s1 ⟨xs,H1,I1,r,ex,eH⟩=>?_)
 subst ex;subst eH
 have eu:=pv r
 have hz:(ts.map fun T=>V.ty T.name).length ≤ sizeLine:=by rw [List.length_map,sizeLine_eq];omega
 refine ⟨by rw [<- r.length];exact hz,?_⟩
 refine ⟨.ref s1.heap.objs.size,upd H1 s1.heap.objs.size (ph ts),I1.laid (t':=s1.toks) (o:=ph ts) (fun b u e=>Heap.get?_push_of_some _ e) (Nat.le_refl _) ⟨?_,hz,us,r,⟨_,Heap.get?_push_size _ rfl,rfl,_,rfl⟩,_,Heap.get?_push_size _ rfl,rfl⟩,rfl,hq _ (I1.hok.fresh (Nat.le_refl _))⟩
 rw [<- eu]
 exact Heap.get?_push_size _ rfl
noncomputable def Kq:D->String
 | .non => "NoneType"
 | .bl _ => "bool"
 | .int _ => "int"
 | .str _ => "str"
 | .tup _ => "tuple"
 | .lst _ => "list"
 | .dct => "dict"
 | .dic _ => "dict"
 | .dip _ => "dict"
theorem Kl {pins:List (Addr × Obj)} {σ:St} {H Hh:Hp} {s:Shared} {d:D} {v:V} {u:Value} (I:Inv X pins σ H s) (m:∀b o,Hh b=some o->H b=some o) (r:R Hh d v) (ru:RelV v u):s.TypeIs u (Kq d):= by
 cases d with
 | non=>cases r.non;cases ru;rfl
 | bl b=>cases r.bl;cases ru;rfl
 | int b=>cases r.int;obtain ⟨t,rfl⟩:=ru;rfl
 | str b=>cases r.str;obtain ⟨t,rfl⟩:=ru;rfl
 | tup ds=>
  obtain ⟨p,vs,rfl,h1,h2⟩:=r.tup
  cases ru
  obtain ⟨its,_,⟨o,ho,hc,_⟩,_⟩:=I.tuple (.of (m _ _ h1))
  exact ⟨o,ho,hc⟩
 | lst ds=>
  obtain ⟨p,vs,rfl,h1,h2⟩:=r.lst
  cases ru
  obtain ⟨its,_,pl,_⟩:=I.list (.inl (Rd.mono m h1))
  obtain ⟨o,ho,hc,_⟩:=pl.isList
  exact ⟨o,ho,hc⟩
 | dct=>
  obtain ⟨p,rfl,h1⟩:=r.dct
  cases ru
  exact dictAt I (m _ _ h1)
 | dic kvs=>
  obtain ⟨p,rfl,h1⟩:=r.dic
  cases ru
  exact Eg I (m _ _ h1)
 | dip kvs=>
  obtain ⟨p,rfl,h1⟩:=r.dip
  cases ru
  exact D3 I (m _ _ h1)
theorem JT {Hh:Hp} {d:D} {v:V} {u:Value} (r:R Hh d v) (ru:RelV v u) (T:Ty) (k:Bool) (ek:iV T d=some k):Answers (fun s=>s.TypeIs u (Kq d)) u (.type T.name) k:= by
 cases d with
 | non=>
  cases r.non;cases ru
  cases T <;> cases ek
  .exact Answers.of_false_none (by decide +kernel) F.isi_meta_int F.sub_NoneType_int
  .exact Answers.of_false_none (by decide +kernel) F.isi_meta_bool F.sub_NoneType_bool
  .exact Answers.of_false_none (by decide +kernel) F.isi_meta_tuple F.sub_NoneType_tuple
  .exact Answers.of_false_none (by decide +kernel) F.isi_meta_list F.sub_NoneType_list
  .exact Answers.of_false_none (by decide +kernel) F.isi_meta_str F.sub_NoneType_str
 | bl b=>
  cases r.bl;cases ru
  cases T <;> cases ek
  .exact Answers.of_true F.isi_meta_int F.sub_bool_int
  .exact Answers.of_true F.isi_meta_bool F.sub_bool_bool
  .exact Answers.of_false_bool (by decide +kernel) F.isi_meta_tuple F.sub_bool_tuple
  .exact Answers.of_false_bool (by decide +kernel) F.isi_meta_list F.sub_bool_list
  .exact Answers.of_false_bool (by decide +kernel) F.isi_meta_str F.sub_bool_str
 | int b=>
  cases r.int;obtain ⟨t,rfl⟩:=ru
  cases T <;> cases ek
  .exact Answers.of_true F.isi_meta_int F.sub_int_int
  .exact Answers.of_false_int (by decide +kernel) F.isi_meta_bool F.sub_int_bool
  .exact Answers.of_false_int (by decide +kernel) F.isi_meta_tuple F.sub_int_tuple
  .exact Answers.of_false_int (by decide +kernel) F.isi_meta_list F.sub_int_list
  .exact Answers.of_false_int (by decide +kernel) F.isi_meta_str F.sub_int_str
 | str b=>
  cases r.str;obtain ⟨t,rfl⟩:=ru
  cases T <;> cases ek
  .exact Answers.of_false_str (by decide +kernel) F.isi_meta_int F.sub_str_int
  .exact Answers.of_false_str (by decide +kernel) F.isi_meta_bool F.sub_str_bool
  .exact Answers.of_false_str (by decide +kernel) F.isi_meta_tuple F.sub_str_tuple
  .exact Answers.of_false_str (by decide +kernel) F.isi_meta_list F.sub_str_list
  .exact Answers.of_true F.isi_meta_str F.sub_str_str
 | tup ds=>
  obtain ⟨p,vs,rfl,h1,h2⟩:=r.tup
  cases ru
  cases T <;> cases ek
  .exact Answers.of_false_tuple (by decide +kernel) F.isi_meta_int F.sub_tuple_int
  .exact Answers.of_false_tuple (by decide +kernel) F.isi_meta_bool F.sub_tuple_bool
  .exact Answers.of_true F.isi_meta_tuple F.sub_tuple_tuple
  .exact Answers.of_false_tuple (by decide +kernel) F.isi_meta_list F.sub_tuple_list
  .exact Answers.of_false_tuple (by decide +kernel) F.isi_meta_str F.sub_tuple_str
 | lst ds=>
  obtain ⟨p,vs,rfl,h1,h2⟩:=r.lst
  cases ru
  cases T <;> cases ek
  .exact Answers.of_false_list (by decide +kernel) F.isi_meta_int F.sub_list_int
  .exact Answers.of_false_list (by decide +kernel) F.isi_meta_bool F.sub_list_bool
  .exact Answers.of_false_list (by decide +kernel) F.isi_meta_tuple F.sub_list_tuple
  .exact Answers.of_true F.isi_meta_list F.sub_list_list
  .exact Answers.of_false_list (by decide +kernel) F.isi_meta_str F.sub_list_str
 | dct=>
  obtain ⟨p,rfl,h1⟩:=r.dct
  cases ru
  cases T <;> cases ek
  .exact Answers.of_false_dict (by decide +kernel) F.isi_meta_int F.sub_dict_int
  .exact Answers.of_false_dict (by decide +kernel) F.isi_meta_bool F.sub_dict_bool
  .exact Answers.of_false_dict (by decide +kernel) F.isi_meta_tuple F.sub_dict_tuple
  .exact Answers.of_false_dict (by decide +kernel) F.isi_meta_list F.sub_dict_list
  .exact Answers.of_false_dict (by decide +kernel) F.isi_meta_str F.sub_dict_str
 | dic kvs=>
  obtain ⟨p,rfl,h1⟩:=r.dic
  cases ru
  cases T <;> cases ek
  .exact Answers.of_false_dict (by decide +kernel) F.isi_meta_int F.sub_dict_int
  .exact Answers.of_false_dict (by decide +kernel) F.isi_meta_bool F.sub_dict_bool
  .exact Answers.of_false_dict (by decide +kernel) F.isi_meta_tuple F.sub_dict_tuple
  .exact Answers.of_false_dict (by decide +kernel) F.isi_meta_list F.sub_dict_list
  .exact Answers.of_false_dict (by decide +kernel) F.isi_meta_str F.sub_dict_str
 | dip kvs=>
  obtain ⟨p,rfl,h1⟩:=r.dip
  cases ru
  cases T <;> cases ek
  .exact Answers.of_false_dict (by decide +kernel) F.isi_meta_int F.sub_dict_int
  .exact Answers.of_false_dict (by decide +kernel) F.isi_meta_bool F.sub_dict_bool
  .exact Answers.of_false_dict (by decide +kernel) F.isi_meta_tuple F.sub_dict_tuple
  .exact Answers.of_false_dict (by decide +kernel) F.isi_meta_list F.sub_dict_list
  .exact Answers.of_false_dict (by decide +kernel) F.isi_meta_str F.sub_dict_str
noncomputable def bJ (T:Ty) (d:D):Bool:=(iV T d).getD false
theorem mh (T:Ty) (d:D):iV T d=some (bJ T d):=by cases T <;> cases d <;> rfl
theorem vV:cT X (.builtin "isinstance") (fun xs H Q=>∃(Hh:Hp) (d:D) (v:V) (q:Addr) (ts:List Ty),xs=[v,.ref q]∧(∀b o,Hh b=some o->H b=some o)∧R Hh d v∧H q=some (ph ts)∧Q (.bl (ts.any fun T=>bJ T d)) H):= by
 intro pins s σ H xs us Q I r h
 obtain ⟨Hh,d,v,q,ts,rfl,m,rd,hq,k⟩:=h
 obtain ⟨u,z,rfl,ru,rz⟩:=r.two
 cases rz
 obtain ⟨ho,_⟩:=I.hok q _ hq
 have hall:∀ts:List Ty,AnswersAll (fun s=>s.TypeIs u (Kq d)) u (ts.map fun T=>Value.type T.name) (ts.map fun T=>bJ T d):=fun ts=>by
  induction ts with
  | nil=>exact trivial
  | cons t ts ih=>exact ⟨JT rd ru t _ (mh t d),ih⟩
 refine IsiPair.tupleOf (hall ts) (Kl I m rd ru) ho fun tk=>?_
 rw [List.any_map]
 exact ⟨.bl _,H,I.tok _,rfl,k⟩
noncomputable def ux (ts:List Ty) (fa:M D):M D:=do
 let d <- fa
 pure (.bl (ts.any fun T=>bJ T d))
theorem Cu {ts:List Ty} {x2:Nat} {pos2:Pos} (hmi:X.mg "isinstance" = none) (ha:DE X a fa) (ht:PA X es (wI ts)) (hl:ts.length ≤ 100:=by decide) (hgi:Gl X "isinstance":=by rfl)
  (he:starEach [a,.Tuple es x2 pos2] X.env=(false,eval a X.env) :: starEach [.Tuple es x2 pos2] X.env:=by rfl) (he2:starEach [.Tuple es x2 pos2] X.env=[(false,eval (.Tuple es x2 pos2) X.env)]:=by rfl):DE X (.Call (.Name "isinstance" p) [a,.Tuple es x2 pos2] [] pos) (ux ts fa) :=
 cB (dr vV hgi hmi (by decide +kernel) (bh ha (bh (Gq ht hl) cb he2) he) (by decide) (by decide) he rfl) fun σ H Q ⟨c,δ,S,TT,d,δ',s,e,k⟩=>by
  obtain ⟨x,δ1,e1,e⟩:=bind_some e
  obtain ⟨rfl,rfl⟩:=aV e
  refine ⟨c,δ,S,TT,x,δ1,s,e1,fun v H1 s1 q hq=>⟨_,x,v,q,ts,rfl,?_,s1.st.head,bf,?_⟩⟩
  .exact fun b o hb=>(dt hq _) b o (br b o hb)
  .have s2:=s1.grow (dt hq (ph ts))
   exact k _ _ (s2.stk (.cons .mkB s2.st.tail))
noncomputable def Ik (r1 r2:D->D->Option D) (fa fb fc:M D):M D:=do
 let x <- fa
 let y <- fb
 let z <- lift (r1 x y)
 match z with
 | .bl true=>do
  let w <- fc
  lift (r2 y w)
 | .bl false=>pure (.bl false)
 | _=>lift none
theorem zm {op op':CmpOp} {g g':Int->Int->V} {h h':Int->Int->D} (ho:gW X (compareOp op) (Ak g)) (ho':gW X (compareOp op') (Ak g')) (hg:∀H i j,R H (h i j) (g i j)) (hg':∀H i j,R H (h' i j) (g' i j)) (ha:DE X a fa) (hb:DE X b fb) (hc:DE X c0 fc)
  (hm:lastMarks [op,op'] [b,c0]=false:=by with_unfolding_all rfl):DE X (.Compare a [op,op'] [b,c0] pos) (Ik (dE (fun _ _=>true) h) (dE (fun _ _=>true) h') fa fb fc):=cB (wX ho ho' ha hb hc hm) fun σ H Q ⟨c,δ,S,T,d,δ',s,e,k⟩=>by
 obtain ⟨x,δ1,e1,e⟩:=bind_some e
 obtain ⟨y,δ2,e2,e⟩:=bind_some e
 obtain ⟨z,δ3,e3,e⟩:=bind_some e
 obtain ⟨e4,rfl⟩:=ba e3
 obtain ⟨i,j,rfl,rfl,_,rfl⟩:=gD e4
 refine ⟨c,δ,S,T,.int i,δ1,s,e1,fun v H1 s1=>⟨c,δ1,.int i :: S,v :: T,.int j,δ2,s1,e2,fun u H2 s2=>?_⟩⟩
 refine ⟨i,j,s2.st.tail.head.int,s2.st.head.int,?_⟩
 have rg:=hg (fg c δ2 σ H2) i j
 cases hz:h i j with
 | bl q=>
  rw [hz] at e rg
  refine ⟨q,rg.bl,?_⟩
  cases q with
  | true=>
   obtain ⟨w,δ4,e5,e⟩:=bind_some e
   obtain ⟨e6,rfl⟩:=ba e
   rw [if_pos rfl]
   obtain ⟨i',j',ei,rfl,_,rfl⟩:=gD e6
   cases ei
   exact ⟨c,δ2,.int j :: .int i :: S,u :: v :: T,.int j',δ4,s2,e5,fun w' H4 s4=>⟨j,j',s4.st.tail.head.int,s4.st.head.int,k _ _ (s4.stk (.cons (hg' _ _ _) s4.st.tail.tail.tail))⟩⟩
  | false=>
   obtain ⟨rfl,rfl⟩:=aV e
   rw [if_neg Bool.false_ne_true]
   exact k _ _ (s2.stk (.cons .mkB s2.st.tail.tail))
 | _=>rw [hz] at e;cases e
theorem CZ (ha:DE X a fa) (hb:DE X b fb) (hc:DE X c0 fc) (hm:lastMarks [.LtE,.Lt] [b,c0]=false:=by with_unfolding_all rfl):DE X (.Compare a [.LtE,.Lt] [b,c0] pos) (Ik Kc Gk fa fb fc):=zm HC D1 (fun _ _ _=>.mkB) (fun _ _ _=>.mkB) ha hb hc hm
noncomputable def Gv (tt:M Bool) (body:M Fl):Nat->M Fl
 | 0=>lift none
 | n + 1=>do
  let b <- tt
  if b=true then do
   let fl <- body
   match fl with
   | .nx=>Gv tt body n
   | .ct=>Gv tt body n
   | .bk=>pure .nx
   | .rt d=>pure (.rt d)
   | .rf d=>pure (.rf d)
  else pure .nx
theorem qq {t:Expr} {sts:List Stmt} {tt:M Bool} {body:M Fl} (n:Nat) (ht:DT X t tt) (hb:mI X sts body) (hp:PassesOwn (model X.prog X.w) X.A X.env X.xe:=by exact PassesOwn.never):lQ X (.While t sts [] pos) (Gv tt body n) :=
 iq (xM hp ht hb) fun E σ0 H0 ⟨c,δ0,S,T,fl,δ',s0,e0,k⟩=>by
  refine ⟨fun m σ H=>∃δ,Sl c δ S σ T H∧Gv tt body m δ=some (fl,δ'),⟨n,δ0,s0,e0⟩,?_⟩
  rintro m σ H ⟨δ,s,e⟩
  cases m with
  | zero=>cases e
  | succ m=>
   obtain ⟨b,δ1,e1,e⟩:=bind_some e
   refine ⟨c,δ,S,T,b,δ1,s,e1,fun H1 s1=>?_⟩
   cases b with
   | false=>
    rw [if_neg Bool.false_ne_true] at e ⊢
    obtain ⟨rfl,rfl⟩:=aV e
    exact k _ _ s1
   | true=>
    rw [if_pos rfl] at e ⊢
    obtain ⟨fl1,δ2,e2,e⟩:=bind_some e
    refine ⟨fun σ' H'=>∃δi,Sl c δi S σ' T H' ∧ Gv tt body m δi=some (fl,δ'),fun σ' H' q=>⟨m,Nat.lt_succ_self m,q⟩,c,δ1,S,T,fl1,δ2,s1,e2,?_⟩
    cases fl1 with
    | nx=>exact fun σ' H' s'=>⟨δ2,s',e⟩
    | ct=>exact fun σ' H' s'=>⟨δ2,s',e⟩
    | bk=>obtain ⟨rfl,rfl⟩:=aV e;exact k
    | rt d'=>obtain ⟨rfl,rfl⟩:=aV e;exact k
    | rf xs=>obtain ⟨rfl,rfl⟩:=aV e;exact k
inductive KL (f:M (Option Int)) (σ:St) (H:Hp) (Q:Option Int->Hp->Prop):Prop
 | mk (c:Ct) (δ:DS) (S:List D) (T:List V) (o:Option Int) (δ':DS) (s:Sl c δ S σ T H) (e:f δ=some (o,δ')) (q:∀H',Sl c δ' S σ T H' -> Q o H'):KL f σ H Q
noncomputable abbrev DO (X:Cx) (e:Option Expr) (f:M (Option Int)):Prop:=PO X e (KL f)
theorem Hr {e:Option Expr} {t t':TO} (h:PO X e t) (w:∀σ H Q,t' σ H Q->t σ H Q):PO X e t':=fun pins s σ H Q I q=>h pins s σ H Q I (w σ H Q q)
theorem du:DO X none (pure none):=Hr DJ fun σ H Q ⟨c,δ,S,T,o,δ',s,e,k⟩=>by
 obtain ⟨rfl,rfl⟩:=aV e
 exact k _ s
noncomputable def Iz:D->M (Option Int)
 | .int i=>pure (some i)
 | _=>lift none
theorem dv (h:DE X e fa):DO X (some e) (fa >>= Iz):=Hr (DD h) fun σ H Q ⟨c,δ,S,T,o,δ',s,e,k⟩=>by
 obtain ⟨d,δ1,e1,e⟩:=bind_some e
 refine ⟨c,δ,S,T,d,δ1,s,e1,fun v H' s'=>?_⟩
 cases d with
 | int i=>
  obtain ⟨rfl,rfl⟩:=aV e
  exact ⟨i,s'.st.head.int,k _ s'.pop⟩
 | _=>cases e
noncomputable def Kg (K:PySem.W.Frag):V->Option Int->Option Int->Hp->VK->Prop:=fun x lo hi H Q=>∃a xs,x=.ref a∧gx K H a xs∧(HT.sIx xs.length 0 lo=0∧HT.sIx xs.length xs.length hi=xs.length)∧Q (.ref a) H
theorem xH:D5 X (Kg X.K):= by
 intro pins s σ H x v vl vu lo hi sl Q I rx hs pl pu h
 obtain ⟨a,xs,rfl,hx,hw,q⟩:=h
 cases rx
 obtain ⟨its,r,ht,hz⟩:=I.tuple hx
 have hlen:its.toArray.size=xs.length:=by rw [List.size_toArray];exact r.length.symm
 refine ⟨"tuple",_,PyProof.Rows.slot_tuple_getitem.lookup,ht.typeIs,?_⟩
 exact qC ht hs pl pu (by rw [hlen];exact hw) ⟨.ref a,H,I,rfl,q⟩
noncomputable def uc (x:D) (lo hi:Option Int):Option D:=match x with
 | .tup xs=>some (.tup (cutD xs lo hi))
 | .lst xs=>some (.lst (cutD xs lo hi))
 | _=>none
noncomputable def Jx (fa:M D) (fl fh:M (Option Int)):M D:=do
 let x <- fa
 let lo <- fl
 let hi <- fh
 lift (uc x lo hi)
theorem vm {α:Type} (xs:List α) (lo hi:Option Int) (h1:HT.sIx xs.length 0 lo=0) (h2:HT.sIx xs.length xs.length hi=xs.length):(xs.drop (HT.sIx xs.length 0 lo)).take (HT.sIx xs.length xs.length hi - HT.sIx xs.length 0 lo)=xs:= by
 rw [h1,h2];simp
theorem cC {lo hi:Option Expr} {fl fh:M (Option Int)} (he:DE X e fa) (hl:DO X lo fl) (hh:DO X hi fh):DE X (.Subscript e (.Slice lo hi none p2) pos) (Jx fa fl fh):=cB (zZ ((Fg.or xH).or B0) he hl hh) fun σ H Q ⟨c,δ,S,T,d,δ',s,e,k⟩=>by
 obtain ⟨x,δ1,e1,e⟩:=bind_some e
 obtain ⟨l,δ2,e2,e⟩:=bind_some e
 obtain ⟨h,δ3,e3,e⟩:=bind_some e
 obtain ⟨e4,rfl⟩:=ba e
 refine ⟨c,δ,S,T,x,δ1,s,e1,fun v H1 s1=>⟨c,δ1,x :: S,v :: T,l,δ2,s1,e2,fun H2 s2=>⟨c,δ2,x :: S,v :: T,h,δ3,s2,e3,fun H3 s3=>?_⟩⟩⟩
 cases x with
 | tup xs=>
  cases e4
  obtain ⟨q,vs,rfl,h1,h2⟩:=s3.st.head.tup
  by_cases hw:HT.sIx vs.length 0 l=0∧HT.sIx vs.length vs.length h=vs.length
  .refine .inl (.inr ⟨q,vs,rfl,.of (br _ _ h1),hw,k _ _ ?_⟩)
   rw [h2.length] at hw
   rw [show cutD xs l h=xs from vm xs l h hw.1 hw.2]
   exact s3
  .refine .inl (.inl ⟨q,vs,rfl,.of (br _ _ h1),hw,fun m hm=>k _ _ ?_⟩)
   have rc:=yw h2 l h
   exact (s3.stk (rc.append s3.st.tail)).newTup rc.length hm
 | lst xs=>
  cases e4
  obtain ⟨q,vs,rfl,h1,h2⟩:=s3.st.head.lst
  refine .inr ⟨q,vs,rfl,.inl (Rd.mono br h1),fun m hm=>k _ _ ?_⟩
  have rc:=yw h2 l h
  have s4:=s3.stk (rc.append s3.st.tail)
  obtain ⟨f1,f2,f3⟩:=s4.fresh hm
  exact (s4.hide (o:=.lst (nt vs l h)) hm).unhideL rc.length f1
 | _=>cases e4
end
noncomputable abbrev dH{α:Type}(n:Nat)(mf:List D->Option α):List D->Option α:= λ ds=>if ds.length=n then mf ds else none
section
variable {P:Program} {w:World} {K:PySem.W.Frag} {mg:Str->Option Value} {base:Heap} {f:Addr} {fd:FuncData} {ps:List Str} {k n:Nat}
theorem Dr:cZ P w K mg base d8 k f fd ps (qQ n λ _=>none):=by
 have no:∀vs H Q E,¬qQ n (λ _=>none) vs H Q E:= λ vs H Q E h=>by obtain⟨_,_,_,_,_,_,e,_⟩:=h;cases e
 exact⟨λ vs H Q E h=>absurd h (no vs H Q E),λ A outer s H args us vs Q E _ _ _ _ h=>absurd h (no vs H Q E)⟩
noncomputable def tf:Sp:= λ vs H Q _=>∃(a:Addr) (ns:List Int),vs=[.ref a]/\Rd H a (.lst (ns.map V.int))/\ns.length<=63/\∀H',Q (.bl true) H'
theorem GB(F:cZ P w K mg base d8 k f fd ps (qQ 1 mf))(h:∀ns:List Int,ns.length<=63->mf [.lst (ns.map .int)]=some (.bl true)):cZ P w K mg base d8 k f fd ps tf:=F.imp λ vs H Q E ⟨a,ns,ev,C,I,q⟩=>by subst ev;refine⟨rfl,λ _=>none,[.lst (ns.map .int)],.bl true,(λ a o z=>nomatch z),.cons (.mkL (Rd.mono (λ b o e=>dG.mpr ⟨(λ⟨_,z⟩=>nomatch z),e⟩) C) (gH ns)) .nil,h ns I,λ v H' g r=>?_⟩;rw[r.bl];grind
noncomputable def Eh(K:PySem.W.Frag):Bool:=K.all λ p=> !(p.2.cls==Value.type "list")
theorem rd_of(J:Eh K=true)(h:fG K H a xs):Rd H a (.lst xs):=by
 rcases h with h|⟨o,its,n,C,hc,_⟩
 .exact h
 .have hm:∃p∈K,p.2=o:=by clear J;induction K with
   |nil=>cases C
   |cons q r U=>
    rw[List.lookup_cons]at C;split at C;. cases C;exact⟨q,List.mem_cons_self,rfl⟩
    .obtain⟨p,I,e⟩:=U C;exact⟨p,List.mem_cons_of_mem _ I,e⟩
  obtain⟨p,I,e⟩:=hm;have:=List.all_eq_true.mp J p I;simp_all
end
theorem walkD{l:PySem.W.OpenLaw}{q:Program}{loose:List Str}{I:(Str->Option Value)->Heap->Prop}{C:World->Heap->Prop}{d:DefRec}{K:Params->PySem.W.Frag}{k:Nat}(J:l.most=some 63)(o:d.params.defaults=[])(U:bR k callerA)
  (hY:∀(w:World)(h:Heap),C w h->(K w.params).In h)(hL:∀w:World,Eh (K w.params)=true)(hT:∀w:World,PySem.W.tabIn (K w.params) nQ=none)
  (F:∀(w:World)(mg:Str->Option Value)(fa:Addr)(h:Heap),(K w.params).In h->h.Ns mainGlobals mg->mg d.name=some (.ref fa)->
   ∃fd:FuncData,(∀(s:Shared)(u:Value),BindsTo s fd ⟨[u],[]⟩ [("_law_script",u)])/\∀base:Heap,(K w.params).In base->base.Ns mainGlobals mg->cZ l.prog w (K w.params) mg base d8 k fa fd ["_law_script"] tf):
  PySem.W.WalkO q loose I C l.row.toRowW d [] (λ f vs=>PySem.call f vs):=
 L2.walk_of (n:=63) (k:=k) (x:="_law_script") (CX:= λ _=>d8) (sp:= λ _=>tf) J (by decide) o U hY hT F (λ w _ a ns hl _ hS=>⟨a,ns,rfl,rd_of (hL w) hS,hl,λ _=>rfl⟩) λ _ _ _ _ _ z=>z
noncomputable def Ok{α:Type}(m:M α)(C:DS)(Q:α->DS->Prop):Prop:=∃a o,m C=some (a,o)/\Q a o
theorem Ok.mono(h:Ok m C Q)(k:∀a o,Q a o->I a o):Ok m C I:=let⟨a,o,e,q⟩:=h;⟨a,o,e,k a o q⟩
section
variable {α:Type} {δ:DS} {Q:α->DS->Prop}
@[simp ↓]theorem bj:Ok (m >>= f) δ Q ↔ Ok m δ fun a δ'=>Ok (f a) δ' Q:= by
 constructor
 .rintro ⟨a,δ',e,q⟩
  obtain ⟨b,δ1,e1,e2⟩:=bind_some e
  exact ⟨b,δ1,e1,a,δ',e2,q⟩
 .rintro ⟨b,δ1,e1,a,δ',e2,q⟩
  exact ⟨a,δ',by rw [M.bind_def,e1];exact e2,q⟩
@[simp ↓]theorem bB:Ok (pure a) δ Q↔Q a δ:=by
 constructor;. rintro⟨b,o,e,q⟩;obtain⟨rfl,rfl⟩:=aV e;exact q
 .exact λ q=>⟨a,δ,rfl,q⟩
@[simp ↓]theorem Jr:Ok (lift (some a)) δ Q↔Q a δ:=by
 constructor;. rintro⟨b,o,e,q⟩;obtain⟨C,rfl⟩:=ba e;simp_all
 .exact λ q=>⟨a,δ,rfl,q⟩
@[simp ↓]theorem A3:Ok (lift none) δ Q↔False:=⟨λ⟨_,_,e,_⟩=>(by cases e),False.elim⟩
theorem dF(h:o=some a)(q:Q a δ):Ok (lift o) δ Q:=by simp_all
@[simp ↓]theorem JU [Decidable c]:Ok (if c then m else n) δ Q ↔ (if c then Ok m δ Q else Ok n δ Q):=by grind
end
section
variable {δ:DS}
@[simp ↓]theorem eP:Ok (ck i) δ Q↔ ∃d,δ[i]?=some (.pu d)/\Q d δ:=by
 constructor;. rintro⟨d,o,e,q⟩;obtain⟨C,rfl⟩:=i4 e;grind
 .rintro⟨d,e,q⟩;exact⟨d,δ,by unfold ck;rw[e],q⟩
@[simp ↓ high]theorem Jw{d:D}{r:DS}{Q:D->DS->Prop}:Ok (ck 0) (.pu d::r) Q↔Q d (.pu d::r):=(⟨λ ⟨_,_,e,q⟩=>by cases e;exact q,λ q=>⟨_,_,rfl,q⟩⟩)
@[simp ↓ high]theorem Js{a0:Jt.Slot}{d:D}{r:DS}{Q:D->DS->Prop}:Ok (ck 1) (a0::.pu d::r) Q↔Q d (a0::.pu d::r):=(⟨λ ⟨_,_,e,q⟩=>by cases e;exact q,λ q=>⟨_,_,rfl,q⟩⟩)
@[simp ↓ high]theorem Jk{a0 a1:Jt.Slot}{d:D}{r:DS}{Q:D->DS->Prop}:Ok (ck 2) (a0::a1::.pu d::r) Q↔Q d (a0::a1::.pu d::r):=(⟨λ ⟨_,_,e,q⟩=>by cases e;exact q,λ q=>⟨_,_,rfl,q⟩⟩)
@[simp ↓ high]theorem Jz{a0 a1 a2:Jt.Slot}{d:D}{r:DS}{Q:D->DS->Prop}:Ok (ck 3) (a0::a1::a2::.pu d::r) Q↔Q d (a0::a1::a2::.pu d::r):=(⟨λ ⟨_,_,e,q⟩=>by cases e;exact q,λ q=>⟨_,_,rfl,q⟩⟩)
@[simp ↓ high]theorem JF{a0 a1 a2 a3:Jt.Slot}{d:D}{r:DS}{Q:D->DS->Prop}:Ok (ck 4) (a0::a1::a2::a3::.pu d::r) Q↔Q d (a0::a1::a2::a3::.pu d::r):=(⟨λ ⟨_,_,e,q⟩=>by cases e;exact q,λ q=>⟨_,_,rfl,q⟩⟩)
@[simp ↓ high]theorem Ju{a0 a1 a2 a3 a4 a5:Jt.Slot}{d:D}{r:DS}{Q:D->DS->Prop}:Ok (ck 6) (a0::a1::a2::a3::a4::a5::.pu d::r) Q↔Q d (a0::a1::a2::a3::a4::a5::.pu d::r):=(⟨λ ⟨_,_,e,q⟩=>by cases e;exact q,λ q=>⟨_,_,rfl,q⟩⟩)
@[simp ↓ high]theorem Jo{a0 a1 a2 a3 a4 a5 a6:Jt.Slot}{d:D}{r:DS}{Q:D->DS->Prop}:Ok (ck 7) (a0::a1::a2::a3::a4::a5::a6::.pu d::r) Q↔Q d (a0::a1::a2::a3::a4::a5::a6::.pu d::r):=(⟨λ ⟨_,_,e,q⟩=>by cases e;exact q,λ q=>⟨_,_,rfl,q⟩⟩)
@[simp ↓ high]theorem Ji{a0 a1 a2 a3 a4 a5 a6 a7:Jt.Slot}{d:D}{r:DS}{Q:D->DS->Prop}:Ok (ck 8) (a0::a1::a2::a3::a4::a5::a6::a7::.pu d::r) Q↔Q d (a0::a1::a2::a3::a4::a5::a6::a7::.pu d::r):=(⟨λ ⟨_,_,e,q⟩=>by cases e;exact q,λ q=>⟨_,_,rfl,q⟩⟩)
@[simp ↓ high]theorem I0{a0 a1 a2 a3 a4 a5 a6 a7 a8 a9:Jt.Slot}{d:D}{r:DS}{Q:D->DS->Prop}:Ok (ck 10) (a0::a1::a2::a3::a4::a5::a6::a7::a8::a9::.pu d::r) Q↔Q d (a0::a1::a2::a3::a4::a5::a6::a7::a8::a9::.pu d::r):=(⟨λ ⟨_,_,e,q⟩=>by cases e;exact q,λ q=>⟨_,_,rfl,q⟩⟩)
@[simp ↓]theorem dZ:Ok (hV i d) δ Q↔i<δ.length/\Q () (δ.set i (.pu d)):=by
 constructor;. rintro⟨u,o,e,q⟩;obtain⟨h,rfl⟩:=ff e;simp_all
 .rintro⟨h,q⟩;exact⟨(),_,by unfold hV;rw[if_pos h],q⟩
@[simp ↓]theorem JB:Ok (yz i d) δ Q↔i<δ.length/\Q () (δ.set i (.ow false d)):=by
 constructor;. rintro⟨u,o,e,q⟩;obtain⟨h,rfl⟩:=ml e;simp_all
 .rintro⟨h,q⟩;exact⟨(),_,by unfold yz;rw[if_pos h],q⟩
@[simp ↓]theorem eW:Ok (dC i) δ Q↔ ∃b xs,δ[i]?=some (.ow b xs)/\Q xs δ:=by
 constructor;. rintro⟨d,o,e,q⟩;obtain⟨⟨b,C⟩,rfl⟩:=bU e;grind
 .rintro⟨b,d,e,q⟩;exact⟨d,δ,by unfold dC;rw[e],q⟩
@[simp ↓]theorem qK:Ok (setOw i xs) δ Q↔ ∃b ys,δ[i]?=some (.ow b ys)/\Q () (δ.set i (.ow b xs)):=by
 constructor;. rintro⟨u,o,e,q⟩;obtain⟨b,ys,h,rfl⟩:=ft e;grind
 .rintro⟨b,ys,h,q⟩;exact⟨(),_,by unfold setOw;rw[h],q⟩
@[simp ↓]theorem zp:Ok (mm i) δ Q↔ ∃xs,δ[i]?=some (.ow false xs)/\Q xs (δ.set i .un):=by
 constructor;. rintro⟨d,o,e,q⟩;unfold mm at e;grind
 .rintro⟨d,e,q⟩;exact⟨d,_,by unfold mm;rw[e],q⟩
@[simp ↓]theorem eF:Ok (td i C) δ Q↔Ok C δ λ d o=>i<o.length/\Q .nx (o.set i (.pu d)):=by unfold td;simp
@[simp ↓]theorem GH:Ok (G6 i C) δ Q↔Ok C δ λ d o=>i<o.length/\Q .nx (o.set i (.ow false d)):=by unfold G6;simp
@[simp ↓]theorem cP:Ok (d6 f g) δ Q↔Ok f δ λ C o=>match C with
  | .nx=>Ok g o Q
  |C=>Q C o:=by
 unfold d6;rw[bj];constructor <;>
 .intro h;refine h.mono λ C o q=>?_;cases C <;> simpa using q
theorem cX(P:DS->Prop)(h:Ok f δ λ C o=>C= .nx/\P o)(k:∀o,P o->Ok g o Q):Ok (d6 f g) δ Q:=by rw[cP];refine h.mono λ C o ⟨e,p⟩=>?_;grind
theorem uo{Q:Fl->DS->Prop}(b:Bool)(U:Ok t δ λ C o=>C=b/\o=δ)(h1:b=true->Ok J δ λ I o=>∃d,I= .rt d/\Q (.rt d) o)(h2:b=false->Ok g δ Q):Ok (d6 (uQ t J (pure .nx)) g) δ Q:=by rw[cP];unfold uQ;rw[bj];refine U.mono λ C o ⟨e1,e2⟩=>?_;subst e1 e2;cases C with
 |true=>refine Ok.mono (m:=J) (h1 rfl) λ I aa ⟨d,e,q⟩=>?_;simp_all
 |false=>exact(bB (Q:= λ I o=>_)).mpr (h2 rfl)
theorem Du{Q:α->DS->Prop}(P:Bool->DS->Prop)(C:Ok t δ P)(U:∀o,P true o->Ok I o Q)(h2:∀o,P false o->Ok J o Q):Ok (uQ t I J) δ Q:=by unfold uQ;rw[bj];refine C.mono λ b o p=>?_;grind
@[simp ↓]theorem zg{Q:α->DS->Prop}:Ok (uQ t C I) δ Q↔Ok t δ λ b o=>if b=true then Ok C o Q else Ok I o Q:=by unfold uQ;simp
@[simp ↓]theorem tK:Ok (rX ta tb) δ Q↔Ok ta δ λ b o=>if b=true then Ok tb o Q else Q false o:=by unfold rX;simp
@[simp ↓]theorem FH:Ok (Ht ta tb) δ Q↔Ok ta δ λ b o=>if b=true then Q true o else Ok tb o Q:=by unfold Ht;simp
@[simp ↓]theorem BA:Ok (AK ta) δ Q↔Ok ta δ λ b o=>Q (!b) o:=by unfold AK;simp
@[simp ↓]theorem ij:Ok (m2 f I J) δ Q↔Ok I δ λ x o=>Ok J o λ y C=>Ok (lift (f x y)) C Q:=by unfold m2;simp
@[simp ↓]theorem fP:Ok (mC f fs) δ Q↔Ok fs δ λ ds o=>Ok (lift (f ds)) o Q:=by unfold mC;simp
@[simp ↓]theorem xX:Ok (mQ f fs) δ Q↔Ok fs δ λ ds o=>Ok (lift (f ds)) o Q:=by unfold mQ;simp
@[simp ↓]theorem cG:Ok (bw I fs) δ Q↔Ok I δ λ x o=>Ok fs o λ xs C=>Q (x::xs) C:=by unfold bw;simp
@[simp ↓]theorem Bp:Ok (iy fs) δ Q↔Ok fs δ λ xs o=>Ok (lift (few xs.length)) o λ _ C=>Q (.tup xs) C:=by unfold iy;simp
@[simp ↓]theorem Di:Ok (qo fs) δ Q↔Ok fs δ λ xs o=>Ok (lift (few xs.length)) o λ _ C=>Q xs C:=by unfold qo;simp
@[simp ↓]theorem gn:Ok (lift (few n)) δ Q↔n<=100000/\Q () δ:=by
 unfold few;split;. simp_all
 .rename_i h;rw[A3];exact⟨False.elim,λ q=>h q.1⟩
@[simp ↓]theorem rK:Ok (lB d) δ Q↔ ∃b,d= .bl b/\Q b δ:=by
 constructor;. rintro⟨b,o,e,q⟩;obtain⟨C,rfl⟩:=k_ e;grind
 .rintro⟨b,rfl,q⟩;exact⟨b,δ,rfl,q⟩
@[simp ↓]theorem GU:Ok (Iz d) δ Q↔ ∃i,d= .int i/\Q (some i) δ:=by cases d <;> simp[Iz]
@[simp ↓]theorem oh:Ok (CK i C) δ Q↔(∃b xs,δ[i]?=some (.ow b xs))/\Ok C δ λ y o=>∃b xs,o[i]?=some (.ow b xs)/\Ok (lift (jk (.lst xs) y)) o Q:=by unfold CK;simp
@[simp ↓]theorem qD:Ok (qd i) δ Q↔ ∃b xs,δ[i]?=some (.ow b xs)/\Q (.int xs.length) δ:=by unfold qd;simp
@[simp ↓]theorem GW:Ok (sF i I k) δ Q↔Ok I δ λ d o=>∃b xs,o[i]?=some (.ow b xs)/\Ok (lift (wu xs.length k)) o λ j C=>∃b ys,C[i]?=some (.ow b ys)/\Q .nx (C.set i (.ow b (xs.set j d))):=by unfold sF;simp
theorem kM(h0:∃b xs,δ[i]?=some (.ow b xs))(h:Ok fs δ λ ds o=>∃d b xs,ds=[d]/\o[i]?=some (.ow b xs)/\xs.length<=100000/\Q .nx (o.set i (.ow b (xs++[d])))):Ok (h_ i fs) δ Q:=by unfold h_;obtain⟨b,xs,e⟩:=h0;simp only[bj,eW];refine⟨b,xs,e,h.mono λ ds o q=>?_⟩;obtain⟨d,C,ys,rfl,I,J,q⟩:=q;simp only[bj,eW,gn,qK,bB];grind
theorem nk(h0:∃b xs,δ[i]?=some (.ow b xs))(h:Ok fs δ λ ds o=>∃(j:Nat) (b:Bool) (xs:List D) (d:D),ds=[.int j]/\o[i]?=some (.ow b xs)/\j<100000/\xs[j]?=some d/\Q d (o.set i (.ow b (xs.eraseIdx j)))):Ok (Cf i fs) δ Q:=by
 unfold Cf;obtain⟨b,xs,e⟩:=h0;simp only[bj,eW];refine⟨b,xs,e,h.mono λ ds o q=>?_⟩;obtain⟨j,C,ys,d,rfl,I,U,J,q⟩:=q;simp only[bj,eW,qK,bB];refine⟨C,ys,I,dF (a:=d) ?_ ⟨C,ys,I,?_⟩⟩;. rw[if_pos (by omega)];exact J
 .exact q
@[simp ↓]theorem CC:Ok (w6 C I) δ Q↔Ok C δ λ x o=>match x with
  | .bl true=>Ok I o Q
  | .bl false=>Q (.bl false) o
  |_=>False:=by
 unfold w6;rw[bj];constructor <;>
 .intro h;refine h.mono λ x o q=>?_;cases x with
  |bl b=>cases b <;> simpa using q
  |_=>simp_all
@[simp ↓]theorem JE:Ok (Fb C) δ Q↔Ok C δ λ x o=>match x with
  | .bl b=>Q (.bl (!b)) o
  |_=>False:=by
 unfold Fb;rw[bj];constructor <;>
 .intro h;refine h.mono λ x o q=>?_;cases x <;> simpa using q
@[simp ↓]theorem Bx:Ok (l4 T C) δ Q↔Ok C δ λ d o=>Q (.bl (bJ T d)) o:=by unfold l4;simp[mh]
@[simp ↓]theorem IQ:Ok (ux C I) δ Q↔Ok I δ λ d o=>Q (.bl (C.any λ T=>bJ T d)) o:=by unfold ux;simp
@[simp ↓]theorem Kp:Ok (J_ I J) δ Q↔Ok I δ λ v C=>Ok (lift (jc v)) C λ t o=>if t=true then Q v o else Ok J o Q:=by unfold J_;simp
@[simp ↓]theorem E7:Ok (Jx J U fh) δ Q↔Ok J δ λ x o=>Ok U o λ l C=>Ok fh C λ h I=>Ok (lift (uc x l h)) I Q:=by unfold Jx;simp
@[simp ↓]theorem Ff:Ok (Aj g U fb) δ Q↔Ok U δ λ h1 o=>Ok fb o λ h2 C=>Ok (qI h1) C λ x I=>Ok (qI h2) I λ y J=>Ok (lift (g x y)) J Q:=by unfold Aj;simp
@[simp ↓]theorem E6:Ok (qI (.th x)) δ Q↔Q x δ:=by
 constructor;. rintro⟨b,o,e,q⟩;cases e;exact q
 .exact λ q=>⟨x,δ,rfl,q⟩
@[simp ↓]theorem Gu:Ok (qI (.ls i)) δ Q↔ ∃b xs,δ[i]?=some (.ow b xs)/\Q (.lst xs) δ:=by
 constructor;. rintro⟨d,o,e,q⟩;unfold qI at e;grind
 .rintro⟨b,xs,h,q⟩;exact⟨_,δ,by unfold qI;dsimp only;rw[h],q⟩
@[simp ↓]theorem BJ:Ok (wU i) δ Q↔ ∃b xs,δ[i]?=some (.ow b xs)/\Q (.ls i) δ:=by unfold wU;simp
@[simp ↓]theorem u5:Ok (oy J fs) δ Q↔Ok J δ λ h o=>Ok fs o λ xs C=>Ok (qI h) C λ x I=>Q (x::xs) I:=by unfold oy;simp
@[simp ↓]theorem uj:Ok (l3 i n mf fs) δ Q↔Ok fs δ λ ds o=>∃b xs,o[i]?=some (.ow b xs)/\ds.length+1=n/\∃r,mf xs ds=some r/\Q r.1 (o.set i (.ow b r.2)):=by
 constructor
 .rintro⟨d,aa,e,q⟩;unfold l3 at e;split at e;. cases e
  .rename_i ds o I;split at e
   .rename_i b xs J;split at e
    .rename_i U;split at e;. cases e
     .rename_i d' C e3;cases e;exact⟨ds,o,I,b,xs,J,U,(d,C),e3,q⟩
    .cases e
   grind
 .rintro⟨ds,o,e,b,xs,I,U,⟨d,C⟩,J,q⟩;exact⟨d,_,by unfold l3;rw[e];dsimp only;rw[I];dsimp only;rw[if_pos U,J],q⟩
@[simp ↓]theorem eI:Ok (cN gt tt te d) δ Q↔Ok (gt d) δ λ _ C=>Ok tt C λ b o=>if b=true then Ok te o λ x I=>Q (some x) I else Q none o:=by unfold cN;simp
@[simp ↓]theorem BG:Ok (p8 n g (.tup ds)) δ Q↔(if ds.length=n then Ok (g ds) δ Q else False):=by show Ok (if ds.length=n then g ds else lift none) δ Q↔_;simp
@[simp ↓]theorem vy:Ok (iU f g (d::ds)) δ Q↔Ok (f d) δ λ _ o=>Ok (g ds) o Q:=by show Ok (f d >>=λ _=>g ds) δ Q↔_;simp
@[simp ↓]theorem zd:Ok (pk []) δ Q↔Q () δ:=by show Ok (pure ()) δ Q↔_;simp
end
section
variable {δ:DS}
theorem bx{α:Type}{lo own:Nat}{J:M jB}{turn:D->M (Option D)}{Q:List D->DS->Prop}(as:List α)(e:α->D)(g:α->Option D)(hl:δ.length=lo)(hi:Ok J δ λ it C=>it=bF (as.map e)/\C=δ)(hn:as.length<=100000)
  (ht:∀a∈as,Ok (turn (e a)) (δ++List.replicate own .un) λ o I=>o=g a/\I.take lo=δ)(hQ:Q (as.filterMap g) δ):Ok (fe lo own J turn) δ Q:=by
 have gen:∀es:List α,(∀d∈es,d∈as)->eJ own turn (λ _=>true) (bF (es.map e)).1 δ=some (es.filterMap g,δ):=by intro es;induction es with
  |nil=>intro _;rfl
  |cons d es ih=>intro hs;obtain⟨o,I,U,e0,e2⟩:=ht d (hs d List.mem_cons_self);show eJ own turn (λ _=>true) ((λ _=>some (e d))::(bF (es.map e)).1) δ=_;unfold eJ;grind
 unfold fe;simp only[bj];refine⟨(),δ,by unfold jl;rw[if_pos hl],hi.mono λ it C ⟨U,e2⟩=>?_⟩;subst U e2;exact gn.mpr ⟨by simpa[bF]using hn,as.filterMap g,C,gen as λ _ h=>h,hQ⟩
theorem bQ{α β:Type}(p:α->Bool)(f:α->β)(as:List α):(as.filterMap λ a=>if p a=true then some (f a)else none)=(as.filter p).map f:=by induction as with
 |nil=>rfl
 |cons a r o=>grind
theorem eS{fi:M jB}{turn:D->M (Option D)}{Q:List D->DS->Prop}(ds:List D)(I:Nat->List D->DS->Prop)(hl:δ.length=lo)(hi:Ok fi δ λ it C=>it=bF ds/\C=δ)(hn:ds.length<=100000)(h0:I 0 [] δ)
  (ht:∀k(hk:k<ds.length) acc δ,acc.length<=k->δ.length=lo->I k acc δ->Ok (turn ds[k]) (δ++List.replicate own .un) λ o J=>(J.take lo).length=lo/\I (k+1) (acc++o.toList) (J.take lo))(hQ:∀xs C,xs.length<=ds.length->C.length=lo->I ds.length xs C->Q xs C):Ok (fe lo own fi turn) δ Q:=by
 have gen:∀(n k:Nat)(acc:List D)(δ:DS),ds.length-k=n->k<=ds.length->acc.length<=k->δ.length=lo->I k acc δ->∃xs C,eJ own turn (λ _=>true) (bF (ds.drop k)).1 δ=some (xs,C)/\C.length=lo/\I ds.length (acc++xs) C/\(acc++xs).length<=ds.length:=by intro n;induction n with
  |zero=>
   intro k acc δ hk aa h0 h1 h2;have:k=ds.length:=by omega
   subst this;rw[List.drop_length];exact⟨[],δ,rfl,h1,by simpa using h2,by simpa using h0⟩
  |succ n ih=>
   intro k acc δ hk aa h0 h1 h2;have U:k<ds.length:=by omega
   rw[List.drop_eq_getElem_cons U];obtain⟨o,J,e,q1,q2⟩:=ht k U acc δ h0 h1 h2;have ho:o.toList.length<=1:=by cases o <;> simp
   obtain⟨xs,C,e',r1,r2,r3⟩:=ih (k+1) (acc++o.toList) (J.take lo) (by omega) U (by rw[List.length_append];omega) q1 q2;refine⟨o.toList++xs,C,?_,r1,by simpa using r2,by simpa using r3⟩;show eJ own turn (λ _=>true) ((λ _=>some ds[k])::(bF (ds.drop (k+1))).1) δ=_;unfold eJ;dsimp only;rw[e];dsimp only;rw[h1,e']
 unfold fe;simp only[bj];refine⟨(),δ,by unfold jl;rw[if_pos hl],hi.mono λ it C ⟨e1,e2⟩=>?_⟩;subst e1 e2;obtain⟨xs,J,e,r1,r2,r3⟩:=gen ds.length 0 [] C (by omega) (Nat.zero_le _) (Nat.le_refl _) hl h0;exact gn.mpr ⟨by simpa[bF]using hn,xs,J,e,hQ xs J (by simpa using r3) r1 (by simpa using r2)⟩
theorem qV{i n k:Nat}{b:Bool}{xs:List D}(h:k<(dg i n).1.length)(hx:δ[i]?=some (.ow b xs))(o:xs.length=n):(dg i n).1[k] δ=xs[k]?:=by have e:=List.getElem_map (λ j (δ:DS)=>(match δ[i]? with|some (.ow _ xs)=>if xs.length=n then xs[j]? else none|_=>none:Option D)) (l:=List.range n) (i:=k) (h:=by simpa[dg]using h);refine Eq.trans (congrFun e δ) ?_;grind
theorem x_{α:Type}{lo own i:Nat}{b:Bool}{fi:M jB}{turn:D->M (Option D)}{Q:List D->DS->Prop}(as:List α)(e:α->D)(g:α->Option D)(hl:δ.length=lo)(hx:δ[i]?=some (.ow b (as.map e)))(hi:Ok fi δ λ it J=>it=dg i as.length/\J=δ)(hn:as.length<=100000)
  (ht:∀a∈as,Ok (turn (e a)) (δ++List.replicate own .un) λ o U=>o=g a/\U.take lo=δ)(hQ:Q (as.filterMap g) δ):Ok (fe lo own fi turn) δ Q:=by
 have gen:∀(n k:Nat),as.length-k=n->k<=as.length->eJ own turn (dg i as.length).2 ((dg i as.length).1.drop k) δ=some ((as.drop k).filterMap g,δ):=by intro n;induction n with
  |zero=>
   intro k hk aa;have:k=as.length:=by omega
   subst this;rw[List.drop_length,List.drop_eq_nil_of_le (by simp[dg])];have ef:(dg i as.length).2 δ=true:=by simp[dg,hx]
   unfold eJ;rw[if_pos ef];rfl
  |succ n ih=>
   intro k hk aa;have C:k<as.length:=by omega
   have I:k<(dg i as.length).1.length:=by simpa[dg]using C
   rw[List.drop_eq_getElem_cons C,List.drop_eq_getElem_cons I];obtain⟨o,U,e1,e0,e2⟩:=ht as[k] (List.getElem_mem C);unfold eJ;have ea:(dg i as.length).1[k] δ=some (e as[k]):=by rw[qV I hx (by simp)];simp[C]
   rw[ea];dsimp only;rw[e1];dsimp only;rw[hl,e2,ih (k+1) (by omega) C,List.filterMap_cons,<- e0];cases o <;> rfl
 unfold fe;simp only[bj];refine⟨(),δ,by unfold jl;rw[if_pos hl],hi.mono λ it J ⟨e1,e2⟩=>?_⟩;subst e1 e2;refine gn.mpr ⟨by simpa[dg]using hn,as.filterMap g,J,?_,hQ⟩;have:=gen as.length 0 (by omega) (Nat.zero_le _);simp_all
noncomputable def IK(gt:D->M Unit)(body:M Fl)(its:List (DS->Option D))(o:Fl):M Fl:=match o with
 | .nx=>forM gt body (λ _=>true) its
 | .ct=>forM gt body (λ _=>true) its
 | .bk=>pure .nx
 | .rt d=>pure (.rt d)
 | .rf d=>pure (.rf d)
theorem wm(gt:D->M Unit)(body:M Fl)(its:List (DS->Option D)){d:D}{δ o C:DS}{u:Unit}{I:Fl}(J:gt d δ=some (u,o))(U:body o=some (I,C)):forM gt body (λ _=>true) ((λ _=>some d)::its) δ=IK gt body its I C:=by rw[forM];dsimp only;rw[M.bind_def,J];dsimp only;rw[M.bind_def,U];rfl
theorem qX(ds:List D)(I:Nat->DS->Prop)(h0:I 0 δ)
  (ht:∀k(hk:k<ds.length) δ,I k δ->Ok (gt ds[k]) δ λ _ U=>Ok body U λ fl o=>match fl with
   | .nx=>I (k+1) o
   | .ct=>I (k+1) o
   | .bk=>Q .nx o
   | .rt d=>Q (.rt d) o
   | .rf d=>Q (.rf d) o)(hQ:∀δ,I ds.length δ->Q .nx δ):Ok (forM gt body (bF ds).2 (bF ds).1) δ Q:=by
 have gen:∀(n k:Nat)(δ:DS),ds.length-k=n->k<=ds.length->I k δ->Ok (forM gt body (λ _=>true) (bF (ds.drop k)).1) δ Q:=by intro n;induction n with
  |zero=>
   intro k δ hk aa h;have:k=ds.length:=by omega
   subst this;rw[List.drop_length];exact⟨.nx,δ,rfl,hQ δ h⟩
  |succ n ih=>
   intro k δ hk aa h;have C:k<ds.length:=by omega
   rw[List.drop_eq_getElem_cons C];have ab:=ht k C δ h;obtain⟨u,U,e1,fl,o,e2,q⟩:=ab;have st:forM gt body (λ _=>true) (bF (ds[k]::ds.drop (k+1))).1 δ=IK gt body (bF (ds.drop (k+1))).1 fl o:=wm gt body _ e1 e2;cases fl with
   |nx=>obtain⟨a,J,e,q'⟩:=ih (k+1) o (by omega) C q;exact⟨a,J,st.trans e,q'⟩
   |ct=>obtain⟨a,J,e,q'⟩:=ih (k+1) o (by omega) C q;exact⟨a,J,st.trans e,q'⟩
   |bk=>exact⟨.nx,o,st,q⟩
   |rt d=>exact⟨.rt d,o,st,q⟩
   |rf d=>exact⟨.rf d,o,st,q⟩
 have:=gen ds.length 0 δ (by omega) (Nat.zero_le _) h0;rwa [List.drop_zero]at this
theorem uC(ds:List D)(I:Nat->DS->Prop)(U:Ok fi δ λ it C=>it=bF ds/\C=δ)(h0:I 0 δ)
  (ht:∀k(hk:k<ds.length) δ,I k δ->Ok (gt ds[k]) δ λ _ J=>Ok body J λ fl o=>match fl with
   | .nx=>I (k+1) o
   | .ct=>I (k+1) o
   | .bk=>Q .nx o
   | .rt d=>Q (.rt d) o
   | .rf d=>Q (.rf d) o)(hQ:∀δ,I ds.length δ->Q .nx δ):Ok (do let it<- fi;Jt.forM gt body it.2 it.1) δ Q:=by rw[bj];refine U.mono λ it C ⟨e1,e2⟩=>?_;subst e1 e2;exact qX ds I h0 ht hQ
end
theorem bL{body:M Fl}{ds:List D}{d:D}(h:Ok body (entry N ds) λ o _=>o= .rt d):cg N body ds=some d:=by obtain⟨o,C,e,rfl⟩:=h;unfold cg;rw[e]
theorem uv{body:M Fl}{ds:List D}{d:List D}(h:Ok body (entry N ds) λ o _=>o= .rf d):i_ N body ds=some d:=by obtain⟨o,C,e,rfl⟩:=h;unfold i_;rw[e]
theorem iK{body:M Fl}{xs ds:List D}{Q:D->List D->Prop}(h:Ok body (dY N xs ds) λ C δ=>∃d o,C= .rt d/\δ[0]?=some (.ow true o)/\Q d o):∃d o,gN N body xs ds=some (d,o)/\Q d o:=by obtain⟨C,I,e,d,o,rfl,J,q⟩:=h;unfold gN;grind
theorem Bw{body:M Fl}{ds:List D}{Q:D->Prop}(h:Ok body (entry N ds) λ o _=>∃d,o= .rt d/\Q d):∃d,cg N body ds=some d/\Q d:=by obtain⟨o,C,e,d,rfl,q⟩:=h;exact⟨d,by unfold cg;rw[e],q⟩
theorem Cg{body:M Fl}{ds:List D}{Q:List D->Prop}(h:Ok body (entry N ds) λ o _=>∃d,o= .rf d/\Q d):∃d,i_ N body ds=some d/\Q d:=by obtain⟨o,C,e,d,rfl,q⟩:=h;exact⟨d,by unfold i_;rw[e],q⟩
section
variable {X:Cx}
noncomputable def never{α:Type}:M α:= λ _=>none
theorem xB:lQ X st never:= λ pins s σ H E I h=>by obtain⟨c,C,S,T,J,o,s,e,k⟩:=h;cases e
end
section
open Classical in
end
section
variable {X:Cx} {a:Expr} {fa:M D} {pos:Pos}
noncomputable def w8:D->Option D
 | .int i=>some (.int (-i))
 |_=>none
noncomputable def m1(f:D->Option D)(fa:M D):M D:=do
 let x<- fa
 lift (f x)
theorem q0(I:DE X a fa):DE X (.UnaryOp .USub a pos) (m1 w8 fa):=cB (DX yp I) λ σ H Q ⟨c,J,S,T,d,U,s,e,k⟩=>by obtain⟨x,o,e1,e⟩:=bind_some e;obtain⟨C,rfl⟩:=ba e;refine⟨c,J,S,T,x,o,s,e1,λ v H' s'=>?_⟩;cases x with
 |int i=>cases C;exact⟨i,s'.st.head.int,k _ _ (s'.pop.stk (.cons .mkI s'.pop.st))⟩
 |_=>cases C
end
section
variable {δ:DS}
@[simp ↓]theorem Jh:Ok (m1 f C) δ Q↔Ok C δ λ x o=>Ok (lift (f x)) o Q:=by unfold m1;simp
@[simp ↓]theorem GR:Ok (Ik U r2 fa fb fc) δ Q↔Ok fa δ λ x C=>Ok fb C λ y I=>Ok (lift (U x y)) I λ z o=>match z with
  | .bl true=>Ok fc o λ w J=>Ok (lift (r2 y w)) J Q
  | .bl false=>Q (.bl false) o
  |_=>False:=by
 unfold Ik;simp;constructor <;>
 .intro h;refine h.mono λ x C h=>h.mono λ y I h=>h.mono λ z o h=>?_;cases z with
  |bl b=>cases b <;> simpa using h
  |_=>simp_all
theorem nU(I:Nat->DS->Prop)(h:∀k δ,I k δ->Ok tt δ λ b o=>(b=true->∃j,k=j+1/\Ok body o λ U C=>U= .nx/\I j C)/\(b=false->Q .nx o)):
  ∀(f n:Nat)(δ:DS),n<f->I n δ->Ok (Gv tt body f) δ Q
 |0,n,δ,hf,_=>by omega
 |f+1,n,δ,hf,hI=>by unfold Gv;rw[bj];refine(h n δ hI).mono λ b o hb=>?_;cases b with
  |false=>simp_all
  |true=>obtain⟨j,rfl,hj⟩:=hb.1 rfl;show Ok (body >>= _) o Q;rw[bj];refine hj.mono λ U C ⟨e,J⟩=>?_;subst e;exact nU I h f j C (by omega) J
end
end Jt
namespace Jt
open PySem L2 PySem.Spec PyProof.Rows
section
variable {prog:Program} {w:World} {A:Around} {E:Value->Shared->Prop} {s:Shared}
theorem xy {ws:List Value} (ht:IsTup s.heap t #[]) (hb:IsTup s.heap b ws.toArray) (h:Q (.ref b) s):wpAny (model prog w) A (binaryOp .Add (.ref t) (.ref b)) Q E s:= by
 obtain ⟨⟨cls,dd,data,sl⟩,ho,hc,n,hd⟩:=id ht
 obtain ⟨⟨cls2,dd2,data2,sl2⟩,ho2,hc2,n2,hd2⟩:=id hb
 simp at hc hd hc2 hd2
 subst hc hd hc2 hd2
 exact concat_meets ⟨_,ho,rfl⟩ ⟨_,ho2,rfl⟩ noFill_tuple_add seq_tuple_add PySem.F.slot_tuple_add PySem.F.entry_tuple_add (PySem.F.args_tuple_add_2 _ _) (tuple_addW0 t b #[] ws.toArray n n2 dd dd2 sl sl2 rfl) ⟨ho,ho2,h⟩
end
section
variable {X:Cx} {a b e:Expr} {fa fb:M D} {pos:Pos}
noncomputable def Ei(K:PySem.W.Frag):R2:= λ x y H Q=>zT K x y H Q\/ ∃p q ys,x= .ref p/\y= .ref q/\gx K H p []/\gx K H q ys/\Q (.ref q) H
theorem A4:gW X (binaryOp .Add) (Ei X.K):=by
 intro pins s σ H x y v u Q I o C h;rcases h with h|⟨p,q,ys,rfl,rfl,U,hq,k⟩
 .exact DM pins s σ H x y v u Q I o C h
 .cases o;cases C;obtain⟨its,r1,p1,_⟩:=I.tuple U;obtain⟨J,r2,p2,_⟩:=I.tuple hq;have e:its=[]:=r1.nil_iff.mpr rfl;subst e;exact xy p1 p2 ⟨.ref q,H,I,rfl,k⟩
noncomputable def j2:D->D->Option D
 | .tup xs,.tup ys=>if xs.length+ys.length<=100000 then some (.tup (xs++ys))else none
 |_,_=>none
theorem yg{K:PySem.W.Frag}:qR (Ei K) j2:= λ c C S σ T H x y v u d Q s e k=>by
 unfold j2 at e;split at e
 .rename_i xs ys;split at e;. rename_i I;cases e;cases xs with
   |cons x xs=>refine .inl (w_ c C S σ T H (.tup (x::xs)) (.tup ys) v u _ Q s ?_ k);show(if xs.length+1+ys.length<=100000 then _ else _)=_;rw[if_pos (by simpa using I)]
   |nil=>obtain⟨p,ws,rfl,o,J⟩:=s.st.tail.head.tup;obtain⟨q,zs,rfl,U,h5⟩:=s.st.head.tup;rw[J.inv0]at o;exact .inr ⟨p,q,zs,rfl,rfl,.of (br _ _ o),.of (br _ _ U),k _ _ (s.stk (.cons s.st.head s.st.tail.tail))⟩
  grind
 grind
theorem eA(o:DE X a fa)(C:DE X b fb):DE X (.BinOp a .Add b pos) (m2 j2 fa fb):=mj A4 yg o C
theorem GD{σ:L2.St}{H:Hp}{s:Shared}(I:L2.Inv X pins σ H s):s.heap.objs.size≠sysModules:= λ e=>by obtain⟨_,_,_,o,_⟩:=I.mod.glob;have:=Heap.lt_size (I.bk _ _ o);rw[e]at this;exact absurd this (by decide)
theorem yk:PE X (.Dict [] [] pos) (λ σ H Q=>∀l,H l=none->Q (.ref l) (upd H l (kh l))):=by intro pins s σ H Q I h;refine wpAny_Dict_empty ?_;have g:(s.heap.push { cls:= .type "dict",data:= .dict #[] }).get? s.heap.objs.size=some { cls:= .type "dict",data:= .dict #[] }:=Heap.get?_push_size _ rfl;refine⟨.ref s.heap.objs.size,_,I.laid (t':=s.toks) (o:=kh s.heap.objs.size) (λ b ob q=>Heap.get?_push_of_some _ q) (Nat.le_refl _) ⟨⟨GD I,_,_,g,rfl,rfl⟩,⟨_,g⟩,λ h1 h2 ⟨C,o,n,J,U,e3⟩ k=>⟨C,o,n,k o J,U,e3⟩⟩,rfl,h _ (I.hok.fresh (Nat.le_refl _))⟩
theorem xl:DE X (.Dict [] [] pos) (pure .dct):=cB yk λ σ H Q ⟨c,I,S,T,d,C,s,e,k⟩=>by obtain⟨rfl,rfl⟩:=aV e;intro l o;have s':=s.grow (dt o (kh l));exact k _ _ (s'.stk (.cons (.mkD (dG.mpr ⟨s.hdNew o,bf⟩)) s'.st))
end
section
variable {prog:Program} {w:World} {A:Around} {E:Value->Shared->Prop} {s:Shared}
theorem i6{n:Nat}{Q:Int×Int×Nat->Shared->Prop}(hs:s.heap.IsSliceOf sl .none .none (.int (-1) t))(h:Q ((n:Int) -1,-1,n) s):wpAny (model prog w) A (Builtin.Slice.sliceApplied (.ref sl) (pure (n:Int))) Q E s:=by
 obtain⟨os,o,J,C⟩:=id hs;unfold Builtin.Slice.sliceApplied Builtin.Slice.sliceFields;refine wpAny_bind (wpAny_bind (wpAny_field o C (x:= .none) rfl (wpAny_bind (wpAny_field o C (x:= .none) rfl (wpAny_bind (wpAny_field o C (x:= .int (-1) t) rfl (wpAny_pure ?_)))))));refine wpAny_bind (HT.slicePart_ (.int (-1) t) ?_);show wpAny _ _ (if((-1:Int)==0)=true then _ else _) _ _ s;rw[if_neg (by decide)];refine wpAny_bind (HT.slicePart_ .none (wpAny_bind (HT.slicePart_ .none (wpAny_bind (wpAny_pure ?_)))));show wpAny _ _ (match Builtin.Slice.sliceAdjust none none (-1) (n:Int)with|(lo,U)=>pure (lo,(-1:Int),Builtin.Slice.slicePlaces lo U (-1))) _ _ s;have e1:Builtin.Slice.sliceAdjust none none (-1) (n:Int)=((n:Int) -1,-1):=rfl;rw[e1];show wpAny _ _ (pure ((n:Int) -1,(-1:Int),Builtin.Slice.slicePlaces ((n:Int) -1) (-1) (-1))) _ _ s;have e2:Builtin.Slice.slicePlaces ((n:Int) -1) (-1) (-1)=n:=by
  unfold Builtin.Slice.slicePlaces;rw[if_neg (by omega)];by_cases h0:n=0;. subst h0;rfl
  .have:((n:Int) -1- -1-1)/ -(-1)=(n:Int) -1:=by rw[show-(-1:Int)=1 from rfl,Int.ediv_one];omega
   omega
 rw[e2];exact wpAny_pure h
theorem p7{α β:Type}{f g:α->Option β}:∀l:List α,(∀x∈l,f x=g x)->l.filterMap f=l.filterMap g
 |[],_=>rfl
 |a::r,h=>by rw[List.filterMap_cons,List.filterMap_cons,h a List.mem_cons_self,p7 r λ x hx=>h x (List.mem_cons_of_mem _ hx)]
theorem zy(xs:Array Value):((List.range xs.size).filterMap λ(m:Nat)=>xs[((xs.size:Int) -1+m*(-1)).toNat]?).toArray=xs.toList.reverse.toArray:=by
 congr 1;have:∀m∈List.range xs.size,xs[((xs.size:Int) -1+m*(-1)).toNat]?=some (xs.toList.reverse.getD m Value.none):= λ m hm=>by
  have o:m<xs.size:=List.mem_range.mp hm;rw[show((xs.size:Int) -1+m*(-1)).toNat=xs.size-1-m by omega];have C:xs.size-1-m<xs.size:=by omega
  rw[List.getD_eq_getElem?_getD,List.getElem?_eq_getElem (by simpa using o)];simp
 have e:(List.range xs.size).filterMap (λ(m:Nat)=>xs[((xs.size:Int) -1+m*(-1)).toNat]?)=(List.range xs.size).filterMap λ m=>some (xs.toList.reverse.getD m Value.none):=p7 _ this;rw[e];refine List.ext_getElem (by simp) λ i C I=>?_;have:i<xs.size:=by simpa using C
 simp[this]
theorem ia{items:Array Value}{t:Tok}{Q:Value->Shared->Prop}(C:IsTup s.heap a items)(hs:s.heap.IsSliceOf sl .none .none (.int (-1) t))
  (h:Q (.ref s.heap.objs.size) { s with heap:=s.heap.push { cls:= .type "tuple",data:= .seq items.toList.reverse.toArray } })(hsz:items.size<=sizeLine):wpAny (model prog w) A (getItem (.ref a) (.ref sl)) Q E s:=by
 have o:sizeOk (.seq items.toList.reverse.toArray):=by show items.toList.reverse.toArray.size<=sizeLine;simpa using hsz
 obtain⟨os,I,J,ab⟩:=id hs;have U:s.TypeIs (.ref sl) "slice":=⟨os,I,J⟩;unfold getItem;try with_reducible refine wpAny_holding ?_
 refine wpAny_bind (wpAny_sequenceKey C.typeIs (by decide) ?_);refine wpAny_bind (wpAny_callSpecial?_slot (name:=Str.ofString "__getitem__") C.typeIs slot_tuple_getitem (wpAny_call_entry slot_tuple_getitem C.typeIs entry_tuple_getitem ?_ (args_tuple_getitem _ _)));show wpAny _ _ (Builtin.Tuple.tupleItemsOf (.ref a) >>= _) _ _ s;refine wpAny_bind (tupleItemsOf_ C (wpAny_bind (wpAny_typeOf U ?_)));refine wpAny_bind (i6 hs ?_);have aa: ¬(((((items.size:Int) -1)==0&&(-1:Int)==1&&items.size==items.size)=true)):=by simp
 show wpAny _ _ (if((((items.size:Int) -1)==0&&(-1:Int)==1&&items.size==items.size)=true)then _ else _) _ _ s;rw[if_neg aa,zy];first
  |exact wpAny_bind (m:=Builtin.Tuple.tupleExact _) (wpAny_newObj_type (wpAny_pure ⟨_,rfl,wpAny_pure h⟩) o)
  |rfl
  |exact wpAny_bind (wpAny_bind (m:=Builtin.Tuple.tupleExact _) (wpAny_newObj_type (wpAny_pure (wpAny_pure ⟨_,rfl,wpAny_pure h⟩)) o))
  |exact wpAny_bind (wpAny_bind (m:=Builtin.Tuple.tupleExact _) (wpAny_newObj_type (wpAny_pure ⟨_,rfl,wpAny_pure h⟩) o))
end
section
variable {X:Cx} {e:Expr} {te:TE} {fa:M D} {j:Nat} {pos p2 p3 p4:Pos}
theorem zh(r:Vals vs us):Vals vs.reverse us.reverse:=by induction r with
 |nil=>exact .nil
 |cons h _ o=>rw[List.reverse_cons,List.reverse_cons];exact o.append (.cons h .nil)
theorem ES(he:PE X e te):PE X (.Subscript e (.Slice none none (some (.UnaryOp .USub (.Constant (.int 1) j p3) p4)) p2) pos) (λ σ H Q=>te σ H λ x H1=>∃a xs,x= .ref a/\gx X.K H1 a xs/\∀l,H1 l=none->Q (.ref l) (upd H1 l (.tup xs.reverse))):=by
 intro pins s σ H Q I h;refine Subscript_ (cp (he pins s σ H _ I h) λ v s1 ⟨x,H1,U,r1,q1⟩=>?_);obtain⟨a,xs,rfl,hx,q⟩:=q1;cases r1;refine wpAny_Slice ?_;rw[evalPart_none];refine wpAny_pure (wpAny_pure ?_);rw[evalPart_some];refine cp ((DX yp mL) pins s1 σ H1 (λ v H'=>v= .int (-1)/\H'=H1) U ⟨1,rfl,rfl,rfl⟩) λ v2 s2 ⟨y,H2,I2,r2,e2,e3⟩=>?_;subst e2;subst e3;obtain⟨t,rfl⟩:=r2;have C:Inv X pins σ H2 { s2 with heap:=s2.heap.push { cls:= .type "slice",data:= .fields #[.none,.none,.int (-1) t] } }:=I2.kept (t':=s2.toks) λ b ob q=>Heap.get?_push_of_some _ q;obtain⟨its,r,J,hz⟩:=C.tuple hx;have hlen:its.toArray.size=xs.length:=by rw[List.size_toArray];exact r.length.symm
 refine tail_any (ops:=[.ref a,.ref s2.heap.objs.size]) J.typeIs slot_tuple_getitem.lookup (ia J (Heap.IsSliceOf.new ..) ?_ (by rw[hlen];exact hz)) (by with_unfolding_all rfl);refine⟨.ref _,_,C.laid (t':=s2.toks) (o:= .tup xs.reverse) (λ b ob q=>Heap.get?_push_of_some _ q) (Nat.le_refl _) ?_,rfl,q _ (C.hok.fresh (Nat.le_refl _))⟩;exact⟨by rw[List.length_reverse];exact hz,_,zh r,q_.new _ _⟩
theorem xf:∀{ds:List D}{vs:List V},Rs H ds vs->Rs H ds.reverse vs.reverse
 |[],vs,h=>by rw[h.inv0];rfl
 |d::ds,vs,h=>by obtain⟨v,r,ev,o,C⟩:=h.inv;subst ev;rw[List.reverse_cons,List.reverse_cons];exact(xf C).append (.cons o .nil)
noncomputable def Hv:D->Option D
 | .tup xs=>some (.tup xs.reverse)
 |_=>none
theorem Fo(he:DE X e fa):DE X (.Subscript e (.Slice none none (some (.UnaryOp .USub (.Constant (.int 1) j p3) p4)) p2) pos) (m1 Hv fa):=cB (ES he) λ σ H Q ⟨c,J,S,T,d,U,s,e,k⟩=>by obtain⟨x,o,e1,e⟩:=bind_some e;obtain⟨C,rfl⟩:=ba e;refine⟨c,J,S,T,x,o,s,e1,λ v H' s'=>?_⟩;cases x with
 |tup xs=>cases C;obtain⟨a,vs,rfl,h1,I⟩:=s'.st.head.tup;refine⟨a,vs,rfl,.of (br _ _ h1),λ l hl=>?_⟩;have s1:=s'.stk ((xf I).append s'.st.tail);exact k _ _ (s1.newTup (by rw[List.length_reverse,List.length_reverse,I.length]) hl)
 |_=>cases C
end
section
variable {X:Cx} {a:Expr} {fa:M D} {fs:M (List D)} {es us:List Expr} {vs:List (Option Expr)} {pos p2:Pos} {j:Nat} {c:Const} {o:UnaryOp} {env:Env}
theorem uB:swapsWith (.List es p2) t l env=pure false:=rfl
theorem p_:starEach (.Constant c j p2::es) env=(false,eval (.Constant c j p2) env)::starEach es env:=rfl
theorem E3:starEach (.Tuple us j p2::es) env=(false,eval (.Tuple us j p2) env)::starEach es env:=rfl
theorem FX:starEach (.List us p2::es) env=(false,eval (.List us p2) env)::starEach es env:=rfl
theorem Gy:starEach (.Dict vs us p2::es) env=(false,eval (.Dict vs us p2) env)::starEach es env:=rfl
theorem HJ:starEach (.UnaryOp o a p2::es) env=(false,eval (.UnaryOp o a p2) env)::starEach es env:=rfl
theorem lU(C:DE X (.Constant c j p2) fa)(I:DA X es fs):DA X (.Constant c j p2::es) (bw fa fs):=aQ C I p_
theorem rA(C:DE X (.Tuple us j p2) fa)(I:DA X es fs):DA X (.Tuple us j p2::es) (bw fa fs):=aQ C I E3
theorem Hk(C:DE X (.List us p2) fa)(I:DA X es fs):DA X (.List us p2::es) (bw fa fs):=aQ C I FX
theorem J1(C:DE X (.Dict vs us p2) fa)(I:DA X es fs):DA X (.Dict vs us p2::es) (bw fa fs):=aQ C I Gy
theorem IZ(C:DE X (.UnaryOp o a p2) fa)(I:DA X es fs):DA X (.UnaryOp o a p2::es) (bw fa fs):=aQ C I HJ
theorem tJ(i:Nat)(x:Str)(e:Expr)(fa:M D)(pos pos':Pos)(C:X.N.Nodup)(I:X.N[i]?=some x)(hx:Loc X.env.scope x)(hf:X.fn x=true\/X.env.scope.names.lookup x=some .local)(hs:swapsWith e (some (.Name x pos')) pos.line X.env=pure false)(he:DE X e fa):lQ X (.Assign [.Name x pos'] e pos) (td i fa):=bC i C he I hx hs hf
end
theorem eR(neg:Bool)(a b:Int):dA neg (.int a) (.int b)=some (.bl (if neg then !decide (a=b)else decide (a=b))):=by show(if gZ (.int a) (.int b)=true then some (D.bl (if neg then !decide (V.int a=V.int b)else decide (V.int a=V.int b)))else none)=_;rw[if_pos (show gZ (.int a) (.int b)=true from rfl)];simp
theorem iE(neg:Bool)(a b:Bool):dA neg (.bl a) (.bl b)=some (.bl (if neg then !decide (a=b)else decide (a=b))):=by show(if gZ (.bl a) (.bl b)=true then some (D.bl (if neg then !decide (V.bl a=V.bl b)else decide (V.bl a=V.bl b)))else none)=_;rw[if_pos (show gZ (.bl a) (.bl b)=true from rfl)];simp
theorem kY(neg:Bool)(a b:Int):jS neg (.int a) (.int b)=some (.bl (if neg then !decide (a=b)else decide (a=b))):=eR neg a b
@[simp]theorem CF:bJ .int .non=false:=rfl
@[simp]theorem EA(b:Bool):bJ .int (.bl b)=true:=rfl
@[simp]theorem Dc(i:Int):bJ .int (.int i)=true:=rfl
@[simp]theorem AQ(x:Str):bJ .int (.str x)=false:=rfl
@[simp]theorem Dh(xs:List D):bJ .int (.tup xs)=false:=rfl
@[simp]theorem B5(xs:List D):bJ .int (.lst xs)=false:=rfl
@[simp]theorem CQ:bJ .int .dct=false:=rfl
@[simp]theorem AW(k:List (Int×Int)):bJ .int (.dic k)=false:=rfl
@[simp]theorem C4(k:List ((Int×Int)×Int)):bJ .int (.dip k)=false:=rfl
@[simp]theorem Av:bJ .bool .non=false:=rfl
@[simp]theorem AB(b:Bool):bJ .bool (.bl b)=true:=rfl
@[simp]theorem Ax(i:Int):bJ .bool (.int i)=false:=rfl
@[simp]theorem Ai(x:Str):bJ .bool (.str x)=false:=rfl
@[simp]theorem Az(xs:List D):bJ .bool (.tup xs)=false:=rfl
@[simp]theorem Ah(xs:List D):bJ .bool (.lst xs)=false:=rfl
@[simp]theorem Ay:bJ .bool .dct=false:=rfl
@[simp]theorem Aq(k:List (Int×Int)):bJ .bool (.dic k)=false:=rfl
@[simp]theorem Aw(k:List ((Int×Int)×Int)):bJ .bool (.dip k)=false:=rfl
@[simp]theorem BF:bJ .tup .non=false:=rfl
@[simp]theorem EH(b:Bool):bJ .tup (.bl b)=false:=rfl
@[simp]theorem A9(i:Int):bJ .tup (.int i)=false:=rfl
@[simp]theorem AY(x:Str):bJ .tup (.str x)=false:=rfl
@[simp]theorem Cb(xs:List D):bJ .tup (.tup xs)=true:=rfl
@[simp]theorem AX(xs:List D):bJ .tup (.lst xs)=false:=rfl
@[simp]theorem Dz:bJ .tup .dct=false:=rfl
@[simp]theorem CJ(k:List (Int×Int)):bJ .tup (.dic k)=false:=rfl
@[simp]theorem B_(k:List ((Int×Int)×Int)):bJ .tup (.dip k)=false:=rfl
@[simp]theorem BO:bJ .lst .non=false:=rfl
@[simp]theorem Eo(b:Bool):bJ .lst (.bl b)=false:=rfl
@[simp]theorem Bb(i:Int):bJ .lst (.int i)=false:=rfl
@[simp]theorem AG(x:Str):bJ .lst (.str x)=false:=rfl
@[simp]theorem Bc(xs:List D):bJ .lst (.tup xs)=false:=rfl
@[simp]theorem AJ(xs:List D):bJ .lst (.lst xs)=true:=rfl
@[simp]theorem BH:bJ .lst .dct=false:=rfl
@[simp]theorem CB(k:List (Int×Int)):bJ .lst (.dic k)=false:=rfl
@[simp]theorem BC(k:List ((Int×Int)×Int)):bJ .lst (.dip k)=false:=rfl
@[simp]theorem C9:bJ .str .non=false:=rfl
@[simp]theorem Ee(b:Bool):bJ .str (.bl b)=false:=rfl
@[simp]theorem A7(i:Int):bJ .str (.int i)=false:=rfl
@[simp]theorem Df(x:Str):bJ .str (.str x)=true:=rfl
@[simp]theorem B1(xs:List D):bJ .str (.tup xs)=false:=rfl
@[simp]theorem Bh(xs:List D):bJ .str (.lst xs)=false:=rfl
@[simp]theorem B3:bJ .str .dct=false:=rfl
@[simp]theorem CG(k:List (Int×Int)):bJ .str (.dic k)=false:=rfl
@[simp]theorem AI(k:List ((Int×Int)×Int)):bJ .str (.dip k)=false:=rfl
end Jt
namespace Jt
open PySem L2
open PyProof.Rows (AllBare)
structure vN (P:Program) (w:World) (l:List Env) (H H':Hp) (h0 h B:Heap):Prop where
 un:Un (fT l) [] H H' h0 h
 hok:gU P w H' h
 inB:∀b o,h0.get? b=some o->b ∉ fT l->∃o',B.get? b=some o'
 hB:∀b o,H' b=some o->∃o',B.get? b=some o'
 st:B.StaysIn h
theorem vN.same (F:vN P w l H H' h0 h B) (st:B.StaysIn h2) (e:h.get? b=some o) (e':B.get? b=some o'):h2.get? b=some o:= by
 have h1:=F.st b o' e'
 rw [e] at h1;cases h1
 exact st b o e'
theorem vN.move{h0 h h2 B base:Heap}(F:vN P w l H H' h0 h B)(st:B.StaysIn h2)(up:h.UpToSlots h2)(fr:h.FunFrames base l):vN P w l H H' h0 h2 B:=by
 have J:∀b∈fT l,∃o,h.get? b=some o/\∀vs,o.data≠ .fields vs:= λ b C=>(fr.mem C).2;refine⟨⟨λ b o e n C _=>?_,λ b o e n C _=>?_,F.un.free,λ b o e _=>?_,F.un.tups,F.un.frzs,F.un.tbls⟩,?_,F.inB,F.hB,st⟩;. obtain⟨I,U⟩:=F.inB b o e C;exact F.same st (F.un.keep b o e n C (by simp)) U
 .obtain⟨sl,e1⟩:=F.un.slot b o e n C (by simp);obtain⟨o1,e2,hd⟩:=J b C;rw[e1]at e2;cases e2;obtain⟨aa,e3⟩:=up b _ e1 hd;grind
 .by_cases C:b∈fT l;. obtain⟨o1,e2,hd⟩:=J b C;obtain⟨aa,e3⟩:=up b _ e2 hd;exact⟨_,e3⟩
  .obtain⟨I,U⟩:=F.inB b o e C;exact⟨I,st b I U⟩
 .intro a o e;refine(F.hok a o e).stay (λ b u C q=>?_) (λ _ q=>q) λ _ _ q=>q;have:∃I,H' b=some I:=by
   rcases C with rfl|C
   .exact⟨o,e⟩
   .exact⟨_,C⟩
  obtain⟨o1,e1⟩:=this;obtain⟨I,U⟩:=F.hB b o1 e1;exact F.same st q U
structure Fx (base:Heap) (l:List Env) (e:Addr) (oe:Obj) (vs:Array Value) (fl:Value) (h:Heap):Prop where
 st:base.StaysIn h
 ne:base.get? e=none
 fr:h.FunFrames base l
 sz:1 < vs.size
 tr:∃T oT ts,h.get? e=some { oe with data:=.fields (vs.setIfInBounds 1 (.ref T)) }∧base.get? T=none∧T ≠ e∧h.get? T=some oT∧oT.data=.fields ts∧ts[3]? = some fl
section
variable {M:Model} {A:Around} {E:Value->Shared->Prop} {s:Shared} {base:Heap} {env:Env} {outer:List Env} {L e:Addr} {oe:Obj} {vs ws:Array Value} {head fl:Value} {hadNext:Bool} {Q:Unit->Shared->Prop}
theorem oW(ai:A.frames=some (env::outer))(hl:s.heap.FunFrames base (env::outer))(hf:env.frame=some L)(he:s.heap.get? e=some { oe with data:= .fields ws })(hw:∀x,ws.setIfInBounds 1 x=vs.setIfInBounds 1 x)(hsz:1<vs.size)(aj:base.StaysIn s.heap)(af:base.get? e=none)
  (h:∀h',Fx base (env::outer) e oe vs (rawInt L) h'->s.heap.UpToSlots h'->Q () { s with heap:=h' }):
  wpAny M A (do let a<- frameOf env;let pl<- entryPlaceOf L hadNext;let b<- EntryCells.newEntry head a .none (rawInt L) .none pl;setField (.ref e) 1 b) Q E s:=by
 have ak:1<ws.size:=by have:=congrArg Array.size (hw .none);simp at this;omega
 have ag:e∉(env::outer).filterMap (·.frame):= λ hm=>by obtain⟨_,o,ho,aa⟩:=hl.mem hm;rw[he]at ho;cases ho;exact aa ws rfl
 refine wpAny_bind (wpAny_frameOf_fun ai hl hf λ I C=>?_);refine wpAny_bind (wpAny_entryPlaceOf λ pl ao=>?_);refine wpAny_bind (wpAny_newObj_type ?_ (ao.sizeOk5 _ _ _ _ _));have J:I.get? e=some { oe with data:= .fields ws }:=(C.2.1 e ag).trans he;have ab:base.StaysIn I:= λ b o U=>(C.2.1 b λ hm=>by rw[(hl.mem hm).1]at U;cases U).trans (aj b o U);have ah:I.objs.size≠e:=Nat.ne_of_gt (Heap.lt_size J);refine wpAny_setField (Heap.get?_push_of_some _ J) rfl ak (h _ ?_ ?_)
 .refine⟨λ b o U=>?_,af,hl.of_keeps λ b o hb aa=>?_,hsz,I.objs.size,_,_,(Heap.get?_update_self _ (Heap.get?_push_of_some _ J) rfl).trans ?_,ab.fresh,ah,(Heap.get?_update_other _ _ (Ne.symm ah)).trans (Heap.get?_push_size I rfl),rfl,?_⟩
  .have ae:e≠b:= λ q=>by rw[<- q,af]at U;cases U
   exact(Heap.get?_update_other _ _ ae).trans (Heap.get?_push_of_some _ (ab b o U))
  .have ae:e≠b:= λ q=>by rw[<- q,he]at hb;cases hb;exact aa ws rfl
   obtain⟨sl,hs⟩:=C.2.2 b o hb;exact⟨_,(Heap.get?_update_other _ _ ae).trans (Heap.get?_push_of_some _ hs),rfl⟩
  .show some { oe with data:= .fields (ws.setIfInBounds 1 _) }=_;rw[hw]
  rfl
 .intro b o hb aa;have ae:e≠b:= λ q=>by rw[<- q,he]at hb;cases hb;exact aa ws rfl
  obtain⟨sl,hs⟩:=C.2.2 b o hb;exact⟨sl,(Heap.get?_update_other _ _ ae).trans (Heap.get?_push_of_some _ hs)⟩
theorem xw(o:A.frames=some (env::outer))(U:s.heap.FunFrames base (env::outer))(hf:env.frame=some L)(he:s.heap.get? e=some { oe with data:= .fields vs })(J:vs[1]?=some .none)(C:base.StaysIn s.heap)(I:base.get? e=none)
  (h:∀h',Fx base (env::outer) e oe vs (rawInt L) h'->s.heap.UpToSlots h'->Q () { s with heap:=h' }):wpAny M A (noteFrame (.ref e) env) Q E s:=by unfold noteFrame;simp only[hf];refine wpAny_bind (wpAny_field he rfl J ?_);exact oW o U hf he (λ _=>rfl) (Array.getElem?_eq_some_iff.mp J).1 C I h
theorem uq(aa:A.frames=some (env::outer))(hf:env.frame=some L)(F:Fx base (env::outer) e oe vs .none s.heap)
  (h:∀h',Fx base (env::outer) e oe vs (rawInt L) h'->s.heap.UpToSlots h'->Q () { s with heap:=h' }):wpAny M A (noteFrame (.ref e) env) Q E s:=by
 obtain⟨ab,ae,hl,hsz,T,oT,ts,he,ah,af,hT,U,h3⟩:=F;unfold noteFrame;simp[hf];refine wpAny_bind (wpAny_field he rfl (x:= .ref T) (by simp[hsz]) ?_);refine wpAny_bind (wpAny_field hT U h3 ?_);refine wpAny_bind (wpAny_setField hT U (Array.getElem?_eq_some_iff.mp h3).1 ?_);have other:∀b,b≠T->(s.heap.update T (Obj.mapFields (·.setIfInBounds 3 Value.none))).get? b=s.heap.get? b:= λ b J=>Heap.get?_update_other _ _ (Ne.symm J);have C:∀b o,s.heap.get? b=some o->(∀vs,o.data≠ .fields vs)->b≠T:= λ b o J I q=>by simp_all
 exact oW aa (hl.of_keeps λ b o J I=>⟨o,(other b (C b o J I)).trans J,rfl⟩) hf ((other e (Ne.symm af)).trans he) (λ x=>by simp) hsz
  (λ b o ag=>(other b λ q=>by simp_all).trans (ab b o ag)) ae λ h' F' up=>h h' F' λ b o J I=>up b o ((other b (C b o J I)).trans J) I
theorem jK(F:Fx base l e oe vs fl s.heap)(h:∀h',Fx base l e oe vs .none h'->s.heap.UpToSlots h'->Q () { s with heap:=h' }):wpAny M A (setFlight (.ref e) none) Q E s:=by
 obtain⟨ae,af,hl,hsz,T,oT,ts,he,ag,ab,hT,aa,h3⟩:=F;have J:3<ts.size:=(Array.getElem?_eq_some_iff.mp h3).1;have other:∀b,b≠T->(s.heap.update T (Obj.mapFields (·.setIfInBounds 3 (none.elim Value.none λ f=>rawInt f)))).get? b=s.heap.get? b:= λ b U=>Heap.get?_update_other _ _ (Ne.symm U);have C:∀b o,s.heap.get? b=some o->(∀vs,o.data≠ .fields vs)->b≠T:= λ b o U I q=>by simp_all
 refine wpAny_bind (wpAny_field he rfl (x:= .ref T) (by simp[hsz]) ?_);refine wpAny_setField hT aa J (h _ ⟨λ b o ah=>(other b λ q=>by simp_all).trans (ae b o ah),af,hl.of_keeps λ b o U I=>⟨o,(other b (C b o U I)).trans U,rfl⟩,hsz,T,_,_,(other e (Ne.symm ab)).trans he,ag,ab,Heap.get?_update_self _ hT (Obj.isFreed_of_fields (Obj.data_mapFields aa _)),Obj.data_mapFields aa _,by simp[J]⟩ λ b o U I=>⟨o.slots,(other b (C b o U I)).trans U⟩)
theorem yZ(aa:A.frames=some (env::outer))(hf:env.frame=some L)(F:Fx base (env::outer) e oe vs .none s.heap)
  (h:∀h',Fx base outer e oe vs .none h'->s.heap.UpToSlots h'->Q () { s with heap:=h' }):wpAny M A (leaving env (.ref e)) Q E s:=by refine wpAny_bind (uq aa hf F λ ab I o=>jK I λ J U C=>h J ?_ (o.trans C));obtain⟨a,b,⟨_,_,c⟩,d,t⟩:=U;exact⟨a,b,c,d,t⟩
theorem vU(aa:A.frames=some (env::outer))(hl:s.heap.FunFrames base (env::outer))(hf:env.frame=some L)(he:s.heap.get? e=some { oe with data:= .fields vs })(hv:vs[1]?=some .none)(ab:base.StaysIn s.heap)(ae:base.get? e=none)
  (h:∀h',Fx base outer e oe vs .none h'->s.heap.UpToSlots h'->Q () { s with heap:=h' }):wpAny M A (leaving env (.ref e)) Q E s:=by refine wpAny_bind (xw aa hl hf he hv ab ae λ af I o=>jK I λ J U C=>h J ?_ (o.trans C));obtain⟨a,b,⟨_,_,c⟩,d,t⟩:=U;exact⟨a,b,c,d,t⟩
end
noncomputable def ui(cls:Value):Obj:={ cls:=cls,data:= .fields #[] }
noncomputable def Ck(t:Addr):Array Value:=#[.ref t,.none,.none,.none,.bool false,.none]
noncomputable def lG(P:Program)(w:World):tQ:= λ outer H s E e s'=>∃(a:Addr) (cls:Value) (t:Addr) (B:Heap) (H':Hp),e= .ref a/\s'.os=s.os/\AllBare s'.gens/\vN P w outer H H' s.heap s'.heap B/\Fx B outer a (ui cls) (Ck t) .none s'.heap/\E cls none H'
section
variable {X:Cx} {pins:List (Addr × Obj)} {σ:St} {H:Hp} {s s':Shared} {h':Heap}
theorem vN.out(I:Inv X pins σ H s)(hx:X.ex=[])(F:vN X.prog X.w X.stack H H' s.heap h2 B):vN X.prog X.w X.outer X.H₀ H' X.s₀.heap h2 B:=by
 have ab:∀b o,X.s₀.heap.get? b=some o->b≠X.env.locals:= λ b o e=>Nat.ne_of_lt (Nat.lt_of_lt_of_le (Heap.lt_size e) I.ok.above);have aa:∀b o,X.s₀.heap.get? b=some o->b∉X.fs->b∉fT X.stack:= λ b o e J hm=>by
  rcases List.mem_cons.mp (I.stkSub b hm)with z|z
  .exact ab b o e z
  .exact J z
 have ae:∀b∈X.fs,b∈fT X.stack:= λ b J=>by
  rcases I.ok.stk with e|⟨e,_⟩
  .rw[e];exact J
  .rw[e];unfold fT;rw[List.filterMap_cons];split;. exact J
   .exact List.mem_cons_of_mem _ J
 have C:∀b,b∉X.ex:= λ b z=>by rw[hx]at z;cases z
 refine⟨⟨λ b o e n J _=>?_,λ b o e n J _=>?_,λ b o e n _=>?_,λ b o e _=>?_,λ b xs e=>F.un.tups b xs (I.base.tups b xs e),λ b o u e=>F.un.frzs b o u (I.base.frzs b o u e),λ b ps e=>?_⟩,F.hok,λ b o e J=>?_,F.hB,F.st⟩;. exact F.un.keep b o (I.base.keep b o e n J (C b)) (I.base.free b o e n (C b)) (aa b o e J) (by simp)
 .obtain⟨sl,U⟩:=I.base.slot b o e n J (C b);obtain⟨af,e2⟩:=F.un.slot b _ U (I.base.free b o e n (C b)) (ae b J) (by simp);grind
 .obtain⟨o',U⟩:=I.base.there b o e (C b);exact F.un.free b o' U (I.base.free b o e n (C b)) (by simp)
 .obtain⟨o',U⟩:=I.base.there b o e (C b);exact F.un.there b o' U (by simp)
 .obtain⟨m1,U⟩:=I.base.tbls b ps e;obtain⟨m2,e2⟩:=F.un.tbls b _ U;exact⟨m1++m2,by rw[e2,Array.append_assoc]⟩
 .obtain⟨o',U⟩:=I.base.there b o e (C b);exact F.inB b o' U (aa b o e J)
theorem yr{e:Value}{Q:Unit->Shared->Prop}{U:Value->Shared->Prop}(I:Inv X pins σ H s)(hx:X.ex=[])(o:X.stack=X.env::X.outer)(hf:X.env.frame=some X.env.locals)(h:lG X.prog X.w X.stack H s E e s')(hE:∀c H',E c none H'->E' c none H')
  (k:∀C,lG X.prog X.w X.outer X.H₀ X.s₀ E' e C->Q () C):wpAny (model X.prog X.w) X.A (leaving X.env e) Q U s':=by
 obtain⟨a,cls,t,B,H',rfl,os,bare,F,fl,q⟩:=h;rw[o]at fl;refine yZ (by rw[I.ok.frames,o]) hf fl λ h' J up=>k _ ⟨a,cls,t,B,H',rfl,os.trans I.os,bare,?_,J,hE _ _ q⟩;have fr:s'.heap.FunFrames B X.stack:=by rw[o];exact fl.fr
 exact vN.out I hx (F.move J.st up fr)
theorem sk{a:Addr}{cls:Value}{args:List Value}{Q:Unit->Shared->Prop}{X':Value->Shared->Prop}(I:Inv X pins σ H s)(hx:X.ex=[])(U:X.stack=X.env::X.outer)(hf:X.env.frame=some X.env.locals)(hm:Heap.MadeExcOf s.heap h' a cls args)(hE:E cls none H)
  (k:∀aa,lG X.prog X.w X.outer X.H₀ X.s₀ E (.ref a) aa->Q () aa):wpAny (model X.prog X.w) X.A (leaving X.env (.ref a)) Q X' { s with heap:=h' }:=by
 have hin:∀env∈X.stack,∀b,env.frame=some b->b∈fT X.stack:= λ env he b J=>List.mem_filterMap.mpr ⟨env,he,J⟩;have af:s.heap.FunFrames (PySem.W.hideAll s.heap (fT X.stack)) X.stack:=PySem.W.funFrames_hide I.stack hin;have inB:∀b o,s.heap.get? b=some o->b∉fT X.stack->(PySem.W.hideAll s.heap (fT X.stack)).get? b=some o:= λ b o e J=>PySem.W.hideAll_get _ e J;have hH:∀b o,H b=some o->b∉fT X.stack:= λ b o e J=>by rw[I.stkFree b J]at e;cases e
 have ag:∀b o,H b=some o->∃o',(PySem.W.hideAll s.heap (fT X.stack)).get? b=some o':= λ b o e=>by cases q:s.heap.get? b with
  |some o'=>exact⟨o',inB b o' q (hH b o e)⟩
  |none=>exfalso;have:=I.hok b o e;revert this;cases o with
   |lst xs=>rintro⟨_,_,_,_,e⟩;rw[q]at e;cases e
   |tup xs=>rintro⟨_,_,_,⟨ob,e,_⟩,_⟩;rw[q]at e;cases e
   |dK kvs=>rintro⟨_,_,_,_,ob,_,_,e,_⟩;rw[q]at e;cases e
   |dT kvs=>rintro⟨_,_,_,_,ob,_,_,e,_⟩;rw[q]at e;cases e
   |set S n=>rintro⟨ob,_,_,_,e,_⟩;rw[q]at e;cases e
   |ins C dx fs=>rintro⟨_,_,_,e,_⟩;rw[q]at e;cases e
   |own y=>rintro⟨_,e⟩;rw[q]at e;cases e
   |xd fs=>rintro⟨_,⟨_,_,_,e,_⟩,_⟩;rw[q]at e;cases e
   |rng lo hi=>rintro⟨_,_,_,e⟩;rw[q]at e;cases e
   |frz ob u=>rintro⟨e,_⟩;rw[q]at e;cases e
   |tbl ps=>rintro⟨_,e,_⟩;rw[q]at e;cases e
   |met f y=>intro z;have e:s.heap.get? b=some _:=z;simp_all
   |ext φ=>rintro⟨_,⟨_,e⟩,_⟩;rw[q]at e;cases e
 have F0:vN X.prog X.w X.stack H H s.heap s.heap (PySem.W.hideAll s.heap (fT X.stack)):=⟨Un.refl,I.hok,λ b o e J=>⟨o,inB b o e J⟩,ag,λ b o e=>PySem.W.of_hideAll _ e⟩;have ab:s.heap.FunFrames (PySem.W.hideAll s.heap (fT X.stack)) (X.env::X.outer):=U▸af;obtain⟨t,he,ak,ht⟩:=hm.there;have ae:(PySem.W.hideAll s.heap (fT X.stack)).get? a=none:=by cases q:(PySem.W.hideAll s.heap (fT X.stack)).get? a with
  |none=>rfl
  |some o=>have:=PySem.W.of_hideAll _ q;rw[hm.new]at this;grind
 refine vU (base:=PySem.W.hideAll s.heap (fT X.stack)) (oe:=ui cls) (vs:=Ck t) (by rw[I.ok.frames,U]) (ab.of_keeps λ b o J _=>⟨o,hm.keeps b o J,rfl⟩) hf he rfl (λ b o e=>hm.keeps b o (PySem.W.of_hideAll _ e)) ae λ h2 fl up=>k _ ⟨a,cls,t,_,H,rfl,I.os,I.bare,?_,fl,hE⟩;have fr:s.heap.FunFrames (PySem.W.hideAll s.heap (fT X.stack)) X.stack:=PySem.W.funFrames_hide I.stack hin;exact vN.out I hx (F0.move fl.st ((Heap.UpToSlots.of_keeps hm.keeps).trans up) fr)
end
noncomputable abbrev XW:=St->Value->Hp->Prop
noncomputable def XF(X:Cx)(pins:List (Addr×Obj))(W:XW)(e:Value)(s':Shared):Prop:=∃σ H s,Inv X pins σ H s/\lG X.prog X.w X.stack H s (λ c _ H'=>W σ c H') e s'
noncomputable def XM(X:Cx)(pins:List (Addr×Obj))(W:XW)(e:Value)(s':Shared):Prop:=∃σ H s a cls args h',Inv X pins σ H s/\e= .ref a/\Heap.MadeExcOf s.heap h' a cls args/\s'={ s with heap:=h' }/\W σ cls H
noncomputable abbrev KQ:=St->Hp->VK->XW->Prop
noncomputable abbrev KG:=St->Hp->(List V->Hp->Prop)->XW->Prop
noncomputable abbrev Ko:=Ends->XW->XW->St->Hp->Prop
noncomputable def C7(X:Cx)(e:Expr)(t:KQ):Prop:=∀(pins:List (Addr×Obj))(s:Shared)(σ:St)(H:Hp)(Q:VK)(W:XW),Inv X pins σ H s->t σ H Q W->wpAny (model X.prog X.w) X.A (eval e X.env) (EP X pins σ Q) (XF X pins W) s
noncomputable def Er(X:Cx)(es:List Expr)(t:KG):Prop:=∀(pos:Pos)(pins:List (Addr×Obj))(s:Shared)(σ:St)(H:Hp)(Q:List V->Hp->Prop)(W:XW),Inv X pins σ H s->t σ H Q W->wpAny (model X.prog X.w) X.A (spliced (backTo pos (starEach es X.env))) (AP X pins σ Q) (XF X pins W) s
noncomputable def XS(X:Cx)(pins:List (Addr×Obj))(W o:XW)(e:Value)(s':Shared):Prop:=XF X pins W e s'\/XM X pins o e s'
noncomputable def Dp(X:Cx)(st:Stmt)(t:Ko):Prop:=∀(pins:List (Addr×Obj))(s:Shared)(σ:St)(H:Hp)(D:Ends)(W o:XW),Inv X pins σ H s->t D W o σ H->wpAny (model X.prog X.w) X.A (exec st X.env) (SP X pins D) (XS X pins W o) s
noncomputable def lZ(X:Cx)(o:List Stmt)(t:Ko):Prop:=∀(pins:List (Addr×Obj))(s:Shared)(σ:St)(H:Hp)(D:Ends)(W C:XW),Inv X pins σ H s->t D W C σ H->wpAny (model X.prog X.w) X.A (execs o X.env) (SP X pins D) (XS X pins W C) s
section
variable {X:Cx} {e c:Expr} {es:List Expr} {st:Stmt} {rest as bs:List Stmt} {pos p:Pos}
theorem GS(h:PE X.nox e t):C7 X e (λ σ H Q _=>t σ H Q):= λ pins s σ H Q W I hw=>
 wpAny_mono (h pins s σ H Q (I.wish _) hw) (λ _ _ ⟨v,H',o,r,q⟩=>⟨v,H',o.unwish,r,q⟩) λ _ _ z=>False.elim z
theorem Dy:Er X [] (λ σ H Q _=>Q [] H):= λ _ pins s σ H Q W I h=>PySem.Calls.spliced_nil ⟨[],H,I,.nil,h⟩
theorem xb(C:C7 X e te)(J:Er X es t)(hs:starEach (e::es) X.env=(false,eval e X.env)::starEach es X.env:=by rfl):Er X (e::es) (λ σ H Q W=>te σ H (λ x H1=>t σ H1 (λ xs o=>Q (x::xs) o) W) W):=by intro pos pins s σ H Q W I h;rw[hs];show wpAny _ _ (spliced ((false,eval e X.env)::backTo pos (starEach es X.env))) _ _ s;refine PySem.Calls.spliced_cons (cp (C pins s σ H _ W I h) λ u s1 ⟨x,H1,U,r1,q1⟩=>?_);exact cp (J pos pins s1 σ H1 _ W U q1) λ us s2 ⟨xs,o,I2,r2,q2⟩=>⟨x::xs,o,I2,.cons r1 r2,q2⟩
theorem y_(F:cZ X.prog X.w X.K X.mg X.base (lG X.prog X.w) k f fd ps sp)(hr:bR k X.A)(hg:Gl X x)(hm:X.mg x=some (.ref f))(hk:PySem.W.keepIn X.K (.ref f)=true)(hb:Binds X.K fd ps [])
  (ha:Er X (e::es) t)(J:(x==("__debug__":Str))=false:=by decide)(he:starEach (e::es) X.env=(false,eval e X.env)::starEach es X.env:=by rfl)(U:(backTo pos (starEach es X.env)).any (·.1)=false:=by rfl):
  C7 X (.Call (.Name x p) (e::es) [] pos) (λ σ H Q W=>t σ H (λ vs H1=>sp vs H1 Q (λ c _ H'=>W σ c H')) W):=by
 intro pins s σ H Q W I h;refine wpAny_Call_Name_kw (fz I hg hm ?_ J);refine PySem.W.callWith_K (h₀:=X.base) I.ok.mod.kin hk (cp (ha pos pins s σ H _ W I h) λ us s1 ⟨vs,H1,o,r,q⟩=>⟨o.kIn,?_⟩) he U;have r2:Vals (vs++[]) (us++[]):=by simp_all
 have q2:sp (vs++[]) H1 Q (λ c _ H'=>W σ c H'):=by simpa using q
 have hl:(us++[]).length=ps.length:=by rw[<- r2.length];exact F.len _ _ _ _ q2
 refine wpAny_call (codeAny_mono (F.run X.A X.stack s1 H1 ⟨us,[]⟩ (us++[]) (vs++[]) Q (λ c _ H'=>W σ c H') hr o.env0 (hb s1 us o.kIn hl) r2 q2) λ r s' C=>?_);cases r with
 |error e=>exact⟨σ,H1,s1,o,C⟩
 |ok fl=>cases fl with
  |ret u=>exact o.after C
  |next=>exact False.elim C
  |brk=>exact False.elim C
  |cont=>exact False.elim C
theorem FE(h:PS X.nox st t):Dp X st (λ D _ _ σ H=>t D σ H):= λ pins s σ H D W o I hw=>
 wpAny_mono (h pins s σ H D (I.wish _) hw) (λ _ _ q=>q.unwish) λ _ _ z=>False.elim z
theorem Bl(he:C7 X e te):Dp X (.Return (some e) pos) (λ D W _ σ H=>te σ H D.rt W):=by intro pins s σ H D W U I h;exact wpAny_Return_some (wpAny_mono (he pins s σ H _ W I h) (λ v s1 ⟨x,H1,o,C,J⟩=>⟨x,σ,H1,o,C,J⟩) λ _ _ z=> .inl z)
theorem zQ(he:C7 X e te)(hs:swapsWith e none pos.line X.env=pure false:=by rfl):Dp X (.Expr e pos) (λ D W _ σ H=>te σ H (λ _ H1=>D.nx σ H1) W):=by intro pins s σ H D W J I h;exact wpAny_Expr_any (wpAny_mono (he pins s σ H _ W I h) (λ v s1 ⟨x,H1,o,U,C⟩=>⟨σ,H1,o,C⟩) λ _ _ z=> .inl z) I.quiet hs
theorem FT(U:PT X.nox c tc)(ha:lZ X as t)(hb:lZ X bs u):Dp X (.If c as bs pos) (λ D W o σ H=>tc σ H λ b H1=>if b=true then t D W o σ H1 else u D W o σ H1):=by intro pins s σ H D W o I h;refine wpAny_If (wpAny_mono (U pins s σ H _ (I.wish _) h) (λ d s1 ⟨H1,C,J⟩=>?_) λ _ _ z=>False.elim z);cases d with
 |true=>exact ha pins s1 σ H1 D W o C.unwish J
 |false=>exact hb pins s1 σ H1 D W o C.unwish J
theorem xp:lZ X [] (λ D _ _ σ H=>D.nx σ H):= λ pins s σ H D W o I h=>wpAny_execs_nil ⟨σ,H,I,h⟩
theorem u0(J:Dp X st t)(U:lZ X rest u):lZ X (st::rest) (λ D W o σ H=>t { D with nx:=u D W o } W o σ H):=by intro pins s σ H D W o I h;refine wpAny_execs_cons (cp (J pins s σ H { D with nx:=u D W o } W o I h) λ f s1 q=>?_);cases f with
 |next=>obtain⟨C,H',I',q⟩:=q;exact U pins s1 C H' D W o I' q
 |ret v=>exact q
 |brk=>exact q
 |cont=>exact q
theorem Cz{C:Addr}{J:List Value}{newId:String}(Y:K.In h)(q:PySem.W.excIn K C J newId=true):
  ∃bm N nm qn bs hdct sn sub ab col dd k0 k1 k2 k3 k5 mN,h.get? C=some (excClassObj nm qn C N bs bm hdct sn sub ab col dd k0 k1 k2 k3 k5 newId)/\h.Ns N mN/\mN "__init__"=none/\OwnTail h J bm:=by
 unfold PySem.W.excIn at q;split at q
 .rename_i dd cd sl ho;split at q
  .rename_i C' bm k0 k1 k2 k3 n k5 hm hs;simp at q;obtain⟨⟨⟨⟨⟨rfl,rfl⟩,o⟩,ht⟩,I⟩,U⟩:=q;obtain⟨nm,bs,mro,ns,qn,hd,sn,sub,ab,col,del⟩:=cd;dsimp only at hm o I U;subst hm o;have aa:sl=#[k0,k1,k2,k3,some (.builtin n),k5]:=by obtain⟨l⟩:=sl;simp at hs;rw[hs]
   subst aa;exact⟨bm,ns,nm,qn,bs,hd,sn,sub,ab,col,dd,k0,k1,k2,k3,k5,_,Y _ _ ho,.of_isNs (PySem.W.isNs_of_in Y I),PySem.W.nsMap_none_of_in Y I U,PySem.W.tail_of_in Y ht⟩
  .cases q
 grind
theorem v_{B newId J:String}{bm:List Value}{np o:Pos}{ta:TA}(FB:ExcBaseFacts B newId J bm)(hc:X.calm=true)(hg:Gl X x)(hm:X.mg x=some (.ref C))(hC:PySem.W.excIn X.K C bm newId=true)(ha:PA X.nox (e::es) ta)
  (ae:(x==("__debug__":Str))=false:=by decide)(he:starEach (e::es) X.env=(false,eval e X.env)::starEach es X.env:=by rfl)(aj:(backTo o (starEach es X.env)).any (·.1)=false:=by rfl):
  Dp X (.Raise (some (.Call (.Name x np) (e::es) [] o)) none pos) (λ _ _ Wm σ H=>ta σ H λ vs H1=>vs.length<=sizeLine/\Wm σ (.ref C) H1):=by
 intro pins s σ H D W Wm I h;obtain⟨tl,N,nm,q,bs,hdct,sn,sub,ab,col,dd,k0,k1,k2,k3,k5,mN,af,hN,ag,T⟩:=Cz I.ok.mod.kin hC;refine wpAny_Raise_call_subT (C:=C) (nm:=nm) (q:=q) (N:=N) (bs:=bs) (bm:=tl) (hdct:=hdct) (sn:=sn) (sub:=sub) (ab:=ab) (col:=col) (dd:=dd) (k0:=k0) (k1:=k1) (k2:=k2) (k3:=k3) (k5:=k5)
  FB (mN:=mN) (T.hasType FB.hasBase) (I.ok.hd hc) (by rw[he];show(false||(backTo o (starEach es X.env)).any (·.1))=false;grind) ag (fz I hg hm ⟨rfl,?_⟩ ae);have hA:=ha o pins s σ H _ (I.wish _) h;have ah:starEach (e::es) X.nox.env=(false,eval e X.env)::starEach es X.env:=he;rw[ah]at hA;rw[he];refine PySem.Calls.evalArgs_plain (wpAny_mono hA (λ us aa ⟨vs,H1,U,r,hz,hw⟩=>?_) λ _ _ z=>False.elim z);have U:=U.unwish;exact⟨rfl,by rw[<- r.length];exact hz,U.bk _ _ af,hN.keeps U.bk,T.keeps U.bk,λ h' a ai=> .inr ⟨σ,H1,aa,a,_,_,h',U,rfl,ai,rfl,hw⟩⟩
end
end Jt
namespace Jt
open PySem L2
section
variable {X:Cx} {pos:Pos}
theorem yF(hm:X.mg x=some (.int i t))(o:Gl X x:=by rfl)(hd:(x==("__debug__":Str))=false:=by decide):DE X (.Name x pos) (pure (.int i)):=H_ (jR (v:= .int i) o hm ⟨t,rfl⟩ hd) λ _=> .mkI
end
end Jt
namespace Jt
open PySem L2
open PyProof.Rows (AllBare)
noncomputable def bX{α β:Type}(x:M (α⊕Addr))(f:α->M (β⊕Addr)):M (β⊕Addr):=do
 let r<- x
 match r with
 | .inl a=>f a
 | .inr C=>pure (.inr C)
noncomputable def GV{α:Type}(x:M α):M (α⊕Addr):=do
 let a<- x
 pure (.inl a)
theorem fv{f:α->M (β⊕Addr)}{J o:DS}{r:β⊕Addr}(h:bX x f J=some (r,o)):(∃a I,x J=some (.inl a,I)/\f a I=some (r,o))\/ ∃C,x J=some (.inr C,o)/\r= .inr C:=by obtain⟨z,I,U,e⟩:=bind_some h;cases z with
 |inl a=>grind
 |inr C=>obtain⟨rfl,rfl⟩:=aV e;grind
inductive Hl (f:M (D ⊕ Addr)) (σ:St) (H:Hp) (Q:VK) (W:XW):Prop
 | mk (c:Ct) (δ:DS) (S:List D) (T:List V) (r:D ⊕ Addr) (δ':DS) (s:Sl c δ S σ T H) (e:f δ=some (r,δ')) (q:match (generalizing:=false) r with
 | .inl d=>∀v H',Sl c δ' (d :: S) σ (v :: T) H' -> Q v H'
 | .inr C=>∀H',Sl c δ' S σ T H' -> W σ (.ref C) H'):Hl f σ H Q W
inductive Gs (f:M (List D ⊕ Addr)) (σ:St) (H:Hp) (Q:List V->Hp->Prop) (W:XW):Prop
 | mk (c:Ct) (δ:DS) (S:List D) (T:List V) (r:List D ⊕ Addr) (δ':DS) (s:Sl c δ S σ T H) (e:f δ=some (r,δ')) (q:match (generalizing:=false) r with
 | .inl ds=>∀vs H',vs.length=ds.length->Sl c δ' (ds ++ S) σ (vs ++ T) H' -> Q vs H'
 | .inr C=>∀H',Sl c δ' S σ T H' -> W σ (.ref C) H'):Gs f σ H Q W
inductive E1 (k:Bool) (f:M (Fl ⊕ Addr)) (En:Ends) (W:XW) (Wm:XW) (σ:St) (H:Hp):Prop
 | mk (c:Ct) (δ:DS) (S:List D) (T:List V) (r:Fl ⊕ Addr) (δ':DS) (s:Sl c δ S σ T H) (e:f δ=some (r,δ')) (q:match (generalizing:=false) r with
 | .inl fl=>Fin c δ' S T fl En
 | .inr C=>∀σ' H',Sl c δ' S σ' T H' -> W σ' (.ref C) H' ∧ (k=true->Wm σ' (.ref C) H')):E1 k f En W Wm σ H
noncomputable abbrev FJ(X:Cx)(e:Expr)(f:M (D⊕Addr)):Prop:=C7 X e (Hl f)
noncomputable abbrev GY(X:Cx)(es:List Expr)(f:M (List D⊕Addr)):Prop:=Er X es (Gs f)
noncomputable abbrev EO(X:Cx)(k:Bool)(st:Stmt)(f:M (Fl⊕Addr)):Prop:=Dp X st (E1 k f)
noncomputable abbrev lR(X:Cx)(k:Bool)(st:List Stmt)(f:M (Fl⊕Addr)):Prop:=lZ X st (E1 k f)
theorem xx(h:C7 X e t)(w:∀σ H Q W,t' σ H Q W->t σ H Q W):C7 X e t':= λ pins s σ H Q W I q=>h pins s σ H Q W I (w σ H Q W q)
theorem ED(h:Er X e t)(w:∀σ H Q W,t' σ H Q W->t σ H Q W):Er X e t':= λ ps pins s σ H Q W I q=>h ps pins s σ H Q W I (w σ H Q W q)
theorem pz(h:Dp X e t)(w:∀D W o σ H,t' D W o σ H->t D W o σ H):Dp X e t':= λ pins s σ H D W o I q=>h pins s σ H D W o I (w D W o σ H q)
theorem yj(h:lZ X e t)(w:∀D W o σ H,t' D W o σ H->t D W o σ H):lZ X e t':= λ pins s σ H D W o I q=>h pins s σ H D W o I (w D W o σ H q)
section
variable {X:Cx} {a e:Expr} {es:List Expr} {fa:M D} {fx:M (D ⊕ Addr)} {fxs:M (List D ⊕ Addr)} {fs:M (List D)} {pos p:Pos} {st:Stmt} {rest as bs:List Stmt} {f:M Fl} {g h:M (Fl ⊕ Addr)} {tt:M Bool} {k:Bool}
theorem oG(he:DE X.nox e fa):FJ X e (GV fa):=xx (GS he) λ σ H Q W ⟨c,C,S,T,r,I,s,e,q⟩=>by obtain⟨d,o,J,e⟩:=bind_some e;obtain⟨rfl,rfl⟩:=aV e;exact⟨c,C,S,T,d,o,s,J,q⟩
theorem uf:GY X [] (pure (.inl [])):=ED Dy λ σ H Q W ⟨c,C,S,T,r,o,s,e,q⟩=>by obtain⟨rfl,rfl⟩:=aV e;grind
noncomputable def tj(fx:M (D⊕Addr))(fxs:M (List D⊕Addr)):M (List D⊕Addr):=bX fx λ x=>bX fxs λ xs=>pure (.inl (x::xs))
theorem iA(ha:FJ X a fx)(hr:GY X es fxs)(hs:starEach (a::es) X.env=(false,eval a X.env)::starEach es X.env:=by rfl):GY X (a::es) (tj fx fxs):=ED (xb ha hr hs) λ σ H Q W ⟨c,δ,S,T,r,I,s,e,q⟩=>by
 rcases fv e with⟨x,o,J,e⟩|⟨C,J,rfl⟩
 .refine⟨c,δ,S,T,.inl x,o,s,J,λ v H1 s1=>?_⟩;rcases fv e with⟨xs,U,e2,e⟩|⟨C,e2,rfl⟩
  .obtain⟨rfl,rfl⟩:=aV e;exact⟨c,o,x::S,v::T,.inl xs,U,s1,e2,λ vs H2 l s2=>q (v::vs) H2 (by grind) (by have st:=s2.st;have h1:=st.right l;exact s2.stk (.cons h1.head ((st.left l).append h1.tail)))⟩
  .exact⟨c,o,x::S,v::T,.inr C,I,s1,e2,λ H2 s2=>q H2 s2.pop⟩
 .exact⟨c,δ,S,T,.inr C,I,s,J,q⟩
noncomputable def Ao(n:Nat)(mf:List D->Option (D⊕Addr)):Sp:= λ vs H Q E=>vs.length=n/\∃(Z:Hp) (ds:List D) (r:D⊕Addr),EY Z H/\Rs (hz Z H) ds vs/\mf ds=some r/\match r with
 | .inl d=>∀v H',fM H H'->R (hz Z H') d v->Q v H'
 | .inr C=>∀H',fM H H'->E (.ref C) none H'
theorem y0{f:Addr}{fd:FuncData}{ps:List Str}{x:Str}{mf:List D->Option (D⊕Addr)}{n:Nat}(F:cZ X.prog X.w X.K X.mg X.base (lG X.prog X.w) kk f fd ps (Ao n mf))(hr:bR kk X.A)(hm:X.mg x=some (.ref f))(hk:PySem.W.keepIn X.K (.ref f)=true)(hb:Binds X.K fd ps [])(ha:GY X (a::es) fxs)
  (hg:Gl X x:=by rfl)(J:(x==("__debug__":Str))=false:=by decide)(he:starEach (a::es) X.env=(false,eval a X.env)::starEach es X.env:=by rfl)(U:(backTo pos (starEach es X.env)).any (·.1)=false:=by rfl):
  FJ X (.Call (.Name x p) (a::es) [] pos) (bX fxs λ ds=>lift (if ds.length=n then mf ds else none)):=xx (y_ F hr hg hm hk hb ha J he U) λ σ H Q W ⟨c,δ,S,T,r,aa,s,e,q⟩=>by
 rcases fv e with⟨ds,I,e1,e⟩|⟨C,e1,rfl⟩
 .obtain⟨e2,rfl⟩:=ba e;refine⟨c,δ,S,T,.inl ds,I,s,e1,λ vs H1 l s1=>?_⟩;split at e2;. rename_i hn;refine⟨l.trans hn,yY c I σ H1,ds,r,kN s1,(s1.st.left l).mono (bq (λ a o _ z=>(d3 s1 a).mp z) λ _ _ _ h=>h),e2,?_⟩;cases r with
   |inl d=>intro v H' g r;have s2:=s1.grow g;exact q v H' (s2.stk (.cons (r.mono (bq (λ a o _ z=>(d3 s1 a).mpr z) λ _ _ _ h=>h)) (s2.st.right l)))
   |inr C=>exact λ H' g=>q H' ((s1.grow g).drop l)
  grind
 .exact⟨c,δ,S,T,.inr C,aa,s,e1,q⟩
theorem gV(hs:lQ X.nox st f):EO X k st (GV f):=pz (FE hs) λ D W Wm σ H ⟨c,C,S,T,r,I,s,e,q⟩=>by obtain⟨J,o,U,e⟩:=bind_some e;obtain⟨rfl,rfl⟩:=aV e;exact⟨c,C,S,T,J,o,s,U,q⟩
theorem AV(he:FJ X e fx):EO X k (.Return (some e) pos) (bX fx λ d=>pure (.inl (.rt d))):=pz (Bl he) λ D W Wm σ H ⟨c,U,S,T,r,o,s,e,q⟩=>by
 rcases fv e with⟨d,I,J,e⟩|⟨C,J,rfl⟩
 .obtain⟨rfl,rfl⟩:=aV e;exact⟨c,U,S,T,.inl d,I,s,J,λ v H' s'=>q v σ H' s'⟩
 .exact⟨c,U,S,T,.inr C,o,s,J,λ H' s'=>(q σ H' s').1⟩
theorem z_(he:FJ X e fx)(hs:swapsWith e none pos.line X.env=pure false:=by rfl):EO X k (.Expr e pos) (bX fx λ _=>pure (.inl .nx)):=pz (zQ he hs) λ D W Wm σ H ⟨c,U,S,T,r,o,s,e,q⟩=>by
 rcases fv e with⟨d,I,J,e⟩|⟨C,J,rfl⟩
 .obtain⟨rfl,rfl⟩:=aV e;exact⟨c,U,S,T,.inl d,I,s,J,λ v H' s'=>q _ _ s'.pop⟩
 .exact⟨c,U,S,T,.inr C,o,s,J,λ H' s'=>(q σ H' s').1⟩
theorem nX(I:DT X.nox t tt)(J:lR X k as g)(U:lR X k bs h):EO X k (.If t as bs pos) (uQ tt g h):=pz (FT I J U) λ D W Wm σ H ⟨c,δ,S,T,r,C,s,e,q⟩=>by obtain⟨x,o,e1,e⟩:=bind_some e;refine⟨c,δ,S,T,x,o,s,e1,λ H' s'=>?_⟩;cases x with
 |true=>exact⟨c,o,S,T,r,C,s',e,q⟩
 |false=>exact⟨c,o,S,T,r,C,s',e,q⟩
noncomputable def FQ(f g:M (Fl⊕Addr)):M (Fl⊕Addr):=bX f λ o=>match o with
 | .nx=>g
 |o=>pure (.inl o)
theorem f9:lR X k [] (pure (.inl .nx)):=yj xp λ D W C σ H ⟨c,I,S,T,r,o,s,e,q⟩=>by obtain⟨rfl,rfl⟩:=aV e;exact q σ H s
theorem df(h1:EO X k st g)(h2:lR X k rest h):lR X k (st::rest) (FQ g h):=yj (u0 h1 h2) λ D W Wm σ H ⟨c,δ,S,T,r,o,s,e,q⟩=>by
 rcases fv e with⟨I,J,U,e⟩|⟨C,U,rfl⟩
 .refine⟨c,δ,S,T,.inl I,J,s,U,?_⟩;cases I with
  |nx=>exact λ aa H' s'=>⟨c,J,S,T,r,o,s',e,q⟩
  |bk=>obtain⟨rfl,rfl⟩:=aV e;exact q
  |ct=>obtain⟨rfl,rfl⟩:=aV e;exact q
  |rt d=>obtain⟨rfl,rfl⟩:=aV e;exact q
  |rf xs=>obtain⟨rfl,rfl⟩:=aV e;exact q
 .exact⟨c,δ,S,T,.inr C,o,s,U,q⟩
theorem dJ(o:EO X k st g):lR X k [st] (FQ g (pure (.inl .nx))):=df o f9
noncomputable def yL(C:Addr)(fs:M (List D)):M (Fl⊕Addr):=do
 let ds<- fs
 let _<- lift (few ds.length)
 pure (.inr C)
theorem gC{B newId o:String}{bm:List Value}{np I:Pos}(FB:ExcBaseFacts B newId o bm)(hm:X.mg x=some (.ref C))(hC:PySem.W.excIn X.K C bm newId=true)(ha:DA X.nox (a::es) fs)(hc:X.calm=true:=by rfl)(hg:Gl X x:=by rfl)
  (J:(x==("__debug__":Str))=false:=by decide)(he:starEach (a::es) X.env=(false,eval a X.env)::starEach es X.env:=by rfl)(U:(backTo I (starEach es X.env)).any (·.1)=false:=by rfl):
  EO X true (.Raise (some (.Call (.Name x np) (a::es) [] I)) none pos) (yL C fs):=pz (v_ FB hc hg hm hC ha J he U) λ D W Wm σ H ⟨c,δ,S,T,r,ab,s,e,q⟩=>by
 obtain⟨ds,aa,e1,e⟩:=bind_some e;obtain⟨u,ae,e2,e⟩:=bind_some e;obtain⟨rfl,rfl⟩:=aV e;obtain⟨e3,rfl⟩:=ba e2;have hn:ds.length<=100000:=by unfold few at e3;simp_all
 refine⟨c,δ,S,T,ds,aa,s,e1,λ vs H' l s'=>⟨?_,(q σ H' (s'.drop l)).2 rfl⟩⟩;rw[l];exact Nat.le_trans hn (by decide)
end
theorem CT(h:lZ X J t)(hx:X.ex=[])(C:X.stack=X.env::X.outer)(hf:X.env.frame=some X.env.locals)
  (U:∀e s',wpAny (model X.prog X.w) X.A (leaving X.env e) (λ _ o=>lG X.prog X.w X.outer X.H₀ X.s₀ E e o) (λ e' o=>lG X.prog X.w X.outer X.H₀ X.s₀ E e' o) s'->X.xe e s'):kE X J (λ D σ H=>t D (λ _ c H'=>E c none H') (λ _ c H'=>E c none H') σ H):= λ pins s σ H D I q=>
 wpAny_mono (h pins s σ H D _ _ I q) (λ _ _ z=>z) λ e s' z=>U e s' (by
  rcases z with⟨aa,H1,s1,I1,z⟩|⟨aa,H1,s1,a,cls,args,h',I1,rfl,hm,rfl,z⟩
  .exact yr I1 hx C hf z (λ _ _ y=>y) λ o y=>y
  .exact sk I1 hx C hf hm z λ o y=>y)
noncomputable def eO(N:List Str)(body:M (Fl⊕Addr))(ds:List D):Option (D⊕Addr):=match body (entry N ds)with
 |some (.inl (.rt d),_)=>some (.inl d)
 |some (.inl .nx,_)=>some (.inl .non)
 |some (.inr C,_)=>some (.inr C)
 |_=>none
section
variable {P:Program} {w:World} {K:PySem.W.Frag} {mg:Str->Option Value} {base:Heap} {k:Nat} {f:Addr} {fd:FuncData} {N ps:List Str} {x qual:Str} {st:Stmt} {body:M (Fl ⊕ Addr)}
theorem fnX(F:wz K x qual st f fd)(S:bT N ps (aX st))(I:∀(cdv:Value)(A:Around)(outer:List Env)(s:Shared)(H:Hp)(E:XK),bR k (A.deeper (PyProof.Rows.envOfC qual (aX st) s.heap.objs.size f cdv))->lR (eE (lG P w) P w K mg base N qual (aX st) f cdv A outer s H E) true (bA st) body):
  cZ P w K mg base (lG P w) (k+1) f fd ps (Ao ps.length (eO N body)):=by
 obtain⟨oc,od,kV,doc,pm,an,cdv,ct,af,rfl,lk,ab⟩:=F.ex;refine DZ lk ab S (λ vs H Q E h=>h.1) λ A outer s H vs Q E hr h=>?_;refine⟨_,CT (E:=E) (I cdv A outer s H E hr) rfl rfl rfl (λ e s' z=>z),?_⟩;obtain⟨hl,Z,ds,r0,hZ,r,e,q⟩:=h;have ae:ps.length<=N.length:=by have:=congrArg List.length S.pre;rw[List.length_take]at this;omega
 have s0:=kL (N:=N) hZ r (by rw[hl];exact ae);unfold eO at e;split at e;. rename_i d J U;cases e;exact⟨_,_,_,_,_,_,s0,U,λ v aa H' s'=>q v H' (λ b o I=>s'.keep b o (by simp) I) (s'.st.head.mono (bq (λ a o _ z=> .inl z) λ _ _ _ h=>h))⟩
 .rename_i J U;cases e;exact⟨_,_,_,_,_,_,s0,U,λ aa H' s'=>q .non H' (λ b o I=>s'.keep b o (by simp) I) .mkN⟩
 .rename_i C J U;cases e;exact⟨_,_,_,_,_,_,s0,U,λ aa H' s'=>⟨q H' λ b o I=>s'.keep b o (by simp) I,λ _=>q H' λ b o I=>s'.keep b o (by simp) I⟩⟩
 grind
end
noncomputable def hx(X:Cx)(a:Addr)(o:Obj):Cx:={ X with A:=X.A.mark (some (.ref a)),calm:=false,pn:=(a,o)::X.pn,xe:= λ _ _=>False }
noncomputable def Au(cls:Value)(o:Obj):Prop:=∃t T,o={ ui cls with data:= .fields ((Ck t).setIfInBounds 1 (.ref T)) }
noncomputable def Kv(D:Ends)(i:Nat):Ends:={ nx:= λ σ H=>D.nx (σ.set i none) H,rt:=D.rt,bk:= λ σ H=>D.bk (σ.set i none) H,ct:= λ σ H=>D.ct (σ.set i none) H }
section
variable {X:Cx} {pins:List (Addr × Obj)} {σ:St} {H:Hp} {s:Shared}
theorem IH(I:Inv X pins σ H s)(e:s.heap.get? a=some o)(n:H a=none)(nl:a≠X.env.locals)(J:a∉X.fs)(d:∀v,o.data≠ .cell v):Inv (hx X a o) pins σ H s:=by
 have ok:=I.ok;refine⟨⟨ok.mod,ok.kind,ok.glob,ok.blt,ok.above,ok.inj,ok.has,ok.cab,(λ z=>Bool.noConfusion z),ok.frames,ok.stk,ok.exf,ok.bs,ok.bsz,ok.noex,ok.exfs,ok.funs,ok.frf,ok.tb⟩,I.os,I.bare,I.base,I.loc,I.cell,I.free,I.freeC,λ p C=>?_,I.hok,I.len⟩;rcases List.mem_cons.mp (show p∈(a,o)::(X.pn++pins)from C)with rfl|C
 .exact⟨e,n,nl,J,d⟩
 .exact I.pin p C
theorem og(ok:X.Ok)(I:Inv (hx X a o) pins σ H s):Inv X pins σ H s:=
 ⟨ok,I.os,I.bare,I.base,I.loc,I.cell,I.free,I.freeC,λ p C=>I.pin p (List.mem_cons_of_mem _ C),I.hok,I.len⟩
theorem ib{Q:Unit->Shared->Prop}{i:Nat}{n:Str}{pos:Pos}(I:Inv X pins σ H s)(hN:X.N.Nodup)(hi:X.N[i]?=some n)(hk:X.env.kindOf n=some .local)(h:∀s',Inv X pins (σ.set i none) H s'->Q () s'):
  wpAny (model X.prog X.w) A (do bindName X.env n .none;unbindBehindTheSuite X.env n pos) Q E s:=by
 obtain⟨m,hn,hl⟩:=id I.loc;have J:(X.env.scope.kind== .class||(X.env.scope.kind== .module&&X.env.locals !=X.env.globals))=false:=by rw[I.ok.kind];rfl
 have U:i<σ.length:=by rw[I.len];exact(List.getElem?_eq_some_iff.mp hi).1
 have cne:=I.cne;have tracked:∀{h':Heap},Heap.SameBut X.env.locals s.heap h'->gU X.prog X.w H h':= λ{h'} hs b ob e=>by have aa:=I.free;refine(I.hok b ob e).stay (λ c w' hc q=>(hs.2 c ?_).trans q) (λ _ q=>q) λ _ _ q=>q;grind
 refine wpAny_nameGoes_keeps hk hn J λ h' v ab hs=>h _ ⟨I.ok,I.os,I.bare,⟨λ b o e n hb hx=>?_,λ b o e n hb hx=>?_,I.base.free,λ b o e hx=>?_,I.base.tups,I.base.frzs,I.base.tbls⟩,⟨_,ab,λ j y v' C e2 e3=>?_⟩,λ y c e=>?_,I.free,I.freeC,λ p hp=>?_,tracked hs,by simpa using I.len⟩;. exact(hs.2 b (Nat.ne_of_lt (Nat.lt_of_lt_of_le (Heap.lt_size e) I.ok.above))).trans (I.base.keep b o e n hb hx)
 .obtain⟨sl,C⟩:=I.base.slot b o e n hb hx;exact⟨sl,(hs.2 b (Nat.ne_of_lt (Nat.lt_of_lt_of_le (Heap.lt_size e) I.ok.above))).trans C⟩
 .obtain⟨o',C⟩:=I.base.there b o e hx;exact⟨o',(hs.2 b (Nat.ne_of_lt (Nat.lt_of_lt_of_le (Heap.lt_size e) I.ok.above))).trans C⟩
 .by_cases hj:j=i;. subst hj;rw[List.getElem?_set_self U]at e2;cases e2
  .rw[List.getElem?_set_ne (Ne.symm hj)]at e2;obtain⟨u',r',q⟩:=hl j y v' C e2 e3;refine⟨u',r',?_⟩;rcases q with⟨k,e⟩|⟨k,c,e,z⟩
   .refine .inl ⟨k,?_⟩;have:y≠n:= λ e=>hj (lh hN C (e▸hi));simp[this,e]
   .exact .inr ⟨k,c,e,z.sameBut hs (cne y c e)⟩
 .obtain⟨w',z⟩:=I.cell y c e;exact⟨w',z.sameBut hs (cne y c e)⟩
 .obtain⟨e,n,ne,nf,d⟩:=I.pin p hp;exact⟨(hs.2 p.1 ne).trans e,n,ne,nf,d⟩
end
section
variable {X:Cx} {body sts:List Stmt} {b0:Stmt} {x n:Str} {C0:Addr} {i:Nat} {tb:Ko} {th:Addr->Value->TS} {p hpos pos:Pos} {Adm:Value->Prop}
theorem GP(hN:X.N.Nodup)(J:X.stack=X.env::X.outer)(hf:X.env.frame=some X.env.locals)(hb:lZ X body tb)(hg:Gl X x)(hm:X.mg x=some (.ref C0))(hi:X.N[i]?=some n)(hl:X.env.kindOf n=some .local)
  (ag:∀cls,Adm cls->PySem.W.exmOne X.K cls (.ref C0)=some true)(hh:∀a o cls,Au cls o->Adm cls->kE (hx X a o) (b0::sts) (th a cls))(aj:(x==("__debug__":Str))=false:=by decide):
  PS X (.Try body [.ExceptHandler (some (.Name x p)) (some n) (b0::sts) hpos] [] [] pos)
   (λ D σ H=>tb D (λ ak cls H'=>Adm cls/\∀a,H' a=none->th a cls (Kv D i) (ak.set i (some (.ref a))) H') (λ _ _ _=>False) σ H):=by
 intro pins s σ H D I h;refine wpAny_Try_except (wpAny_mono (hb pins s σ H D _ _ I h) (λ f s1 hq=>?_) λ e s1 he=>?_);. cases f with
  |next=>exact wpAny_execs_nil hq
  |brk=>exact hq
  |cont=>exact hq
  |ret u=>exact hq
 rcases he with⟨ab,H1,s0,I1,a,cls,t,B,H',rfl,os,bare,F,fl,aa,hw⟩|⟨ab,H1,s0,a,cls,args,h',I1,rfl,_,_,z⟩
 rotate_left;. exact False.elim z
 rw[J]at fl;have ao:s1.heap.FunFrames B X.stack:=by rw[J];exact fl.fr
 refine uq (by rw[I.ok.frames,J]) hf fl λ h2 ae up2=>?_;have F2:=F.move ae.st up2 ao;have aq:h2.FunFrames B X.stack:=by rw[J];exact ae.fr
 refine jK ae λ h3 U ar=>?_;have F3:=F2.move U.st ar aq;have au:h3.FunFrames B X.stack:=by rw[J];exact U.fr
 have ah:H' a=none:=by cases q:H' a with
  |none=>rfl
  |some o=>obtain⟨o',e'⟩:=F.hB a o q;rw[fl.ne]at e';cases e'
 have inv:∀(h5:Heap),Fx B (X.env::X.outer) a (ui cls) (Ck t) .none h5->vN X.prog X.w X.stack H1 H' s0.heap h5 B->∃o,Au cls o/\h5.get? a=some o/\Inv (hx X a o) pins ab H' { s1 with heap:=h5 }:= λ h5 f5 F5=>by
  have I5:Inv X pins ab H' { s1 with heap:=h5 }:=I1.call' (ch:=[]) os F5.un F5.hok bare λ b z=>nomatch z;obtain⟨T,oT,ts,C,_⟩:=f5.tr;refine⟨_,⟨t,T,rfl⟩,C,IH I5 C ah ?_ ?_ λ v z=>nomatch z⟩;. rintro rfl;obtain⟨m,⟨o,es,ep,ho,hd,_⟩,_⟩:=I5.loc;have:=ho.symm.trans C;cases this;cases hd
  .intro hm;have:a∈fT (X.env::X.outer):=by unfold fT;rw[List.filterMap_cons,hf];exact List.mem_cons_of_mem _ hm
   obtain⟨_,o,ho,ax⟩:=f5.fr.mem this;simp_all
 obtain⟨o3,_,e3,I3⟩:=inv h3 U F3;have av:o3.cls=cls:=by obtain⟨T,oT,ts,C,_⟩:=U.tr;rw[e3]at C;cases C;rfl
 refine wpAny_handleBy_cons (codeAny_handlers_test (fz (X:=hx X a o3) I3 hg hm ?_ aj)) (by intro q;cases q);have LT:PySem.W.Looks (model X.prog X.w) h3 (typeOf (.ref a)) cls:=av▸(PySem.W.Looks.ld e3).andThen .now;refine(PySem.W.exm_one (M:=model X.prog X.w) I3.kIn LT (ag cls aa)).at ?_;refine codeAny_handlers_suite_as ?_;refine jK U λ h6 ai aw=>?_;have F6:=F3.move ai.st aw au;obtain⟨o6,x6,e6,I6⟩:=inv h6 ai F6;refine f_ (X:=hx X a o6) (i:=i) (v:= .ref a) I6 hN hi (.inl hl) rfl (λ s7 I7=>?_) (.inr hl);refine wpAny_mono (hh a o6 cls x6 aa pins s7 _ H' (Kv D i) I7 (hw a ah)) (λ f s8 hq=>?_) λ _ _ z=>False.elim z;cases f with
 |next=>obtain⟨af,H8,I8,q⟩:=hq;exact ib (og I.ok I8) hN hi hl λ s9 I9=>⟨_,H8,I9,q⟩
 |brk=>obtain⟨af,H8,I8,q⟩:=hq;exact ib (og I.ok I8) hN hi hl λ s9 I9=>⟨_,H8,I9,q⟩
 |cont=>obtain⟨af,H8,I8,q⟩:=hq;exact ib (og I.ok I8) hN hi hl λ s9 I9=>⟨_,H8,I9,q⟩
 |ret u=>obtain⟨v,af,H8,I8,r,q⟩:=hq;exact ib (og I.ok I8) hN hi hl λ s9 I9=>⟨v,_,H8,I9,r,q⟩
end
end Jt
namespace Jt
open PySem L2
open PySem.W (nd_bind Looks InstAt findIn specialIn takesIn mroIn clsIn findObj looks_findIn looks_find looks_mroIn KitX kitOne kitCls class_get)
section
variable {prog:Program} {w:World} {A:Around} {E:Value->Shared->Prop} {s:Shared} {K:PySem.W.Frag} {x D:Addr} {ox:Obj}
theorem Bz(o:(clsIn K D).isSome=true)(C:findIn K (.ref D) name=some (some a))(I:specialIn K a "__get__"=some (some g))(J:takesIn K a=some true):findObj K D none name=some (.bind g a):=by obtain⟨cd,o⟩:=Option.isSome_iff_exists.mp o;unfold findObj;grind
structure kq (K:PySem.W.Frag) (D:Addr):Prop where
 c:(clsIn K D).isSome=true
 ga:findIn K (.ref D) "__getattribute__" = some (some (.builtin "BaseException.__getattribute__"))
 gt:findIn K (.ref D) "__getattr__" = some none
 cl:findIn K (.ref D) "__class__" = some (some (.builtin "object.__class__"))
 ge:specialIn K (.builtin "object.__class__") "__get__" = some (some (.builtin "getset_descriptor.__get__"))
 tk:takesIn K (.builtin "object.__class__")=some true
 mo:mroIn K D (.type "object")=some true
 mb:mroIn K D (.type "BaseException")=some true
theorem FL{Q:Value->Shared->Prop}(F:kq K D)(X:K.In s.heap)(I:InstAt s.heap x ox D none)(h:Q (.ref D) s):wpAny (model prog w) A (call (.builtin "BaseException.__getattribute__") [.ref x,.str "__class__" tk]) Q E s:=by
 obtain⟨J,g,d,t,os⟩:=s;have U:=I.type (M:=model prog w);have L1:=looks_mroIn (M:=model prog w) X F.mb;have L2:=looks_find (M:=model prog w) X I (Bz F.c F.cl F.ge F.tk);have C:builtinKind "BaseException.__getattribute__"=some .slot:=by decide+kernel
 have o:splitId "BaseException.__getattribute__"=some ("BaseException","__getattribute__"):=by decide+kernel
 have ha:=PySem.F.args_bexc_ga (.ref x) (.str "__class__" tk);refine wpAny_call (codeAny_call_builtin PySem.F.attr_ValueError.ga.plain PySem.F.entry_bexc_ga ?_);simp only[checkBuiltinCall,C,o];refine wpAny_bind ?_;. unfold isInstance;(repeat(first|with_reducible refine wpAny_call (class_get (ox:=ox) (od:=none) X I F.mo ?_)|lk|wp_step));exact h
theorem vH(F:kq K D)(X:K.In s.heap)(I:InstAt s.heap x ox D none)(h:Q (some (.ref D)) { s with toks:=s.toks+1 }):wpAny (model prog w) A (getAttr? (.ref x) "__class__") Q E s:=by
 obtain⟨hh,g,d,t,os⟩:=s;have J:=I.type (M:=model prog w);have U:=looks_findIn (M:=model prog w) X F.ga;have L2:=looks_findIn (M:=model prog w) X F.gt;have o:(Value.builtin "BaseException.__getattribute__"==Value.builtin "object.__getattribute__")=false:=by decide+kernel
 have C:(onTheHeap (Value.ref D)&&Value.builtin "BaseException.__getattribute__"==Value.builtin "object.__getattribute__")=false:=by rw[o];rfl
 have hb:=PySem.F.attr_ValueError.ga.bind (.ref x);unfold getAttr? getAttrBy? getAttrBy;refine wpAny_bind (wpAny_mkText (wpAny_bind (wpAny_attempt (wpAny_holding (wpAny_bind (J.at (wpAny_bind (U.at ?_))))))));dsimp only;rw[if_neg (by rw[C];decide)];refine wpAny_bind (L2.at (wpAny_bind (wpAny_attempt (wpAny_holding ?_))));refine FL (ox:=ox) F X I ?_;exact wpAny_pure (wpAny_pure h)
theorem xR(F:kq K D):KitX K (.ref x) (.ref D) (λ h=>InstAt h x ox D none) where
 ty:= λ _ _ _ I=>I.type
 it:= λ _ _ X _=>by
  obtain⟨C,o⟩:=Option.isSome_iff_exists.mp F.c;unfold clsIn at o;split at o;. rename_i c' d' J U ho;intro A' Q' E' s' k q;exact wpAny_bind (wpAny_loadPart (k _ _ (X _ _ ho)) (wpAny_pure q))
  .cases o
 ne:= λ h tp dd its n sl X aa=>by
  obtain⟨C,o⟩:=Option.isSome_iff_exists.mp F.c;refine Bool.eq_false_iff.mpr λ q=>?_;have e:D=tp:=Value.ref.inj (beq_iff_eq.mp q);subst e;unfold clsIn at o;split at o;. rename_i c' d' J U ho;have z:=(X _ _ ho).symm.trans aa;cases z
  simp_all
 ca:= λ X I k=>vH F X I k
theorem zJ{o:Obj}(z:Au (.ref D) o)(e:h.get? x=some o):InstAt h x o D none:=by obtain⟨t,T,rfl⟩:=z;exact⟨e,rfl,rfl,trivial⟩
end
end Jt
namespace Jt
open PySem L2
open PySem.SeqAt (list_countAt list_indexAt)
section
variable {X:Cx}
noncomputable def JD:Value->Bool
 | .bool b=>b
 |_=>false
theorem s_:∀{bs:List Bool}{us:List Value},Vals (bs.map V.bl) us->us=bs.map Value.bool
 |[],_,.nil=>rfl
 |b::bs,_,.cons r rs=>by rw[s_ rs,r];rfl
noncomputable def uu:V->List V->Hp->VK->Prop:= λ x vs H Q=>∃(l:Addr) (bs:List Bool) (j:Nat),x= .ref l/\vs=[.bl true]/\H l=some (.lst (bs.map V.bl))/\bs.length<1000/\bs[j]?=some true/\(∀m,m<j->bs[m]?=some false)/\Q (.int j) H
theorem vw:JR X "list.index" uu:=by
 intro pins s σ H x vs v us Q I rx rv h;obtain⟨l,bs,j,rfl,rfl,hH,hlen,U,o,q⟩:=h;cases rx;obtain⟨u,rfl,ru⟩:=rv.one;cases ru;obtain⟨z,its,n,r,hl,e⟩:=I.lstM hH;have hv:=s_ r;subst hv;have C:j<bs.length:=(List.getElem?_eq_some_iff.mp U).1;refine call_meets F.slot_list_index ⟨_,e,rfl⟩ F.entry_list_index (F.args_list_index_2 _ _) (list_indexAt l _ n none #[] (.bool true) JD j (by simpa using C) (by omega) ?_ ?_) ⟨e,λ y hy=>?_,?_⟩;. have:=(List.getElem?_eq_some_iff.mp U).2;simp[JD,this]
 .intro m hm J;have:=(List.getElem?_eq_some_iff.mp (o m J)).2;simp[JD,this]
 .obtain⟨b,_,rfl⟩:=List.mem_map.mp (show y∈bs.map Value.bool by simpa using hy);have:=PySem.SeqAt.EqAt.bool_bool (A:=X.A.in1) (s:=s) b true;simpa[JD]using this
 .exact⟨.int j,H,I.tok _,⟨_,rfl⟩,q⟩
noncomputable def nz(i:Nat)(a:Addr)(b:Bool):TE:= λ σ H Q=>σ[i]?=some (some (.ref a))/\Q (.bl b) H
theorem qH{a D:Addr}{o:Obj}{vc:V}{c:Value}{b:Bool}(F:kq X.K D)(C:(a,o)∈X.pn)(z:Au (.ref D) o)(rc:∀u,RelV vc u->u=c)(e:PySem.W.kitOne X.K (.ref D) c=some b):cT X (.builtin "isinstance") (λ xs H Q=>xs=[.ref a,vc]/\Q (.bl b) H):=by intro pins s σ H xs us Q I J h;obtain⟨rfl,q⟩:=h;obtain⟨u1,u2,rfl,U,r2⟩:=J.two;cases U;have:=rc _ r2;subst this;obtain⟨e1,_⟩:=I.pin (a,o) (List.mem_append_left _ C);exact PySem.W.kia_one (xR F) I.kIn (zJ z e1) e (λ z=>nomatch z) λ tk=>⟨.bl b,H,I.tok _,rfl,q⟩
theorem xn(o:Gl X x)(hm:X.mg x=some (.ref C))(hd:(x==("__debug__":Str))=false:=by decide):PE X (.Name x pos) (tC (.ref C)):=
 λ _ _ _ H _ I h=>fz I o hm ⟨.ref C,H,I,rfl,h⟩ hd
theorem Gb{a D C:Addr}{o:Obj}{x y:Str}{p1 p2 pos pf:Pos}{b:Bool}(F:kq X.K D)(hp:(a,o)∈X.pn)(z:Au (.ref D) o)(e:PySem.W.kitOne X.K (.ref D) (.ref C)=some b)(J:X.mg "isinstance"=none)(hm:X.mg y=some (.ref C))
  (hN:X.N[i]?=some x:=by rfl)(hv:oZ X.env.scope x:=by first | exact Or.inl rfl | exact Or.inr (Or.inl rfl) | exact Or.inr (Or.inr rfl))(U:Gl X "isinstance":=by rfl)(hg:Gl X y:=by rfl)(hd:(x==("__debug__":Str))=false:=by decide)(aa:(x==("__classdict__":Str))=false:=by decide)(hd2:(y==("__debug__":Str))=false:=by decide):
  PE X (.Call (.Name "isinstance" pf) [.Name x p1,.Name y p2] [] pos) (nz i a b):=
 λ pins s σ H Q I h=>dr (qH F hp z (vc:= .ref C) (c:= .ref C) (λ _ r=>r) e) U J (by rfl) (bh (cY hN hv hd aa) (bh (xn hg hm hd2) cb)) (by decide) (by rfl) rfl rfl pins s σ H Q I ⟨_,h.1,rfl,h.2⟩
theorem BZ{a D:Addr}{o:Obj}{x y:Str}{T:String}{p1 p2 pos pf:Pos}{b:Bool}(F:kq X.K D)(hp:(a,o)∈X.pn)(z:Au (.ref D) o)(e:PySem.W.kitOne X.K (.ref D) (.type T)=some b)(C:X.mg "isinstance"=none)(hm:X.mg y=none)(J:bootBuiltins y=some (.type T))
  (hN:X.N[i]?=some x:=by rfl)(hv:oZ X.env.scope x:=by first | exact Or.inl rfl | exact Or.inr (Or.inl rfl) | exact Or.inr (Or.inr rfl))(U:Gl X "isinstance":=by rfl)(hg:Gl X y:=by rfl)(hd:(x==("__debug__":Str))=false:=by decide)(aa:(x==("__classdict__":Str))=false:=by decide)(hd2:(y==("__debug__":Str))=false:=by decide)(ab:y≠"__name__":=by decide):
  PE X (.Call (.Name "isinstance" pf) [.Name x p1,.Name y p2] [] pos) (nz i a b):=
 λ pins s σ H Q I h=>dr (qH F hp z (vc:= .ty T) (c:= .type T) (λ _ r=>r) e) U C (by rfl) (bh (cY hN hv hd aa) (bh (tV (v:= .ty T) hg hm J rfl ab hd2) cb)) (by decide) (by rfl) rfl rfl pins s σ H Q I ⟨_,h.1,rfl,h.2⟩
end
end Jt
namespace Jt
open PySem L2 PySem.Spec PyProof.Rows
structure Rm (k:Nat) (A:Around):Prop where
 dp:A.depth + 3 * k + 5 < recursionLimit
 un:A.units + 16 * k + 200 < cLine
theorem HV(r:bR k A):Rm k A:=⟨r.dp,r.un⟩
theorem Rm.mark(r:Rm k A)(h:Option Value):Rm k (A.mark h):=⟨r.dp,r.un⟩
theorem Rm.depth(r:Rm k A):A.depth<recursionLimit:=by have:=r.dp;omega
structure Jl (P:Program) (w:World) (K:PySem.W.Frag) (mg:Str->Option Value) (base:Heap) (k:Nat) (f:Addr) (fd:FuncData) (ps:List Str) (D:Addr) (res:V):Prop where
 run:∀(A:Around) (outer:List Env) (s:Shared) (H:Hp) (args:Args) (a:Addr) (o:Obj) (Q:VK),Rm k A->A.handled=some (.ref a)->u_ P w K mg base A outer s H->BindsTo s fd args (ps.zip [.ref a])->Au (.ref D) o->s.heap.get? a=some o->H a=none->a ∉ fT outer ->
  (∀H',fM H H' -> Q res H')->codeAny (model P w) A (.call (.ref f) args) (CR d8 outer P w H s Q fun _ _ _=>False) s
noncomputable def Hu(P:Program)(w:World)(K:PySem.W.Frag)(C:Str->Option Value)(base:Heap)(N:List Str)(qual:Str)(scope:Scope)(f:Addr)(cd:Value)(A:Around)(outer:List Env)(s:Shared)(H:Hp)(a:Addr)(o:Obj):Cx:=
 { eE d8 P w K C base N qual scope f cd A outer s H (λ _ _ _=>False)with calm:=false,pn:=[(a,o)],xe:= λ _ _=>False }
section
variable {P:Program} {w:World} {K:PySem.W.Frag} {mg:Str->Option Value} {base:Heap} {k:Nat} {f:Addr} {fd:FuncData} {N ps:List Str} {x qual:Str} {st:Stmt} {D:Addr} {res:V}
theorem KU(F:wz K x qual st f fd)(S:bT N ps (aX st))(af:ps.length=1)
  (ab:∀(cdv:Value)(A:Around)(outer:List Env)(s:Shared)(H:Hp)(a:Addr)(o:Obj),Au (.ref D) o->A.handled=some (.ref a)->∃t,kE (Hu P w K mg base N qual (aX st) f cdv A outer s H a o) (bA st) t/\∀Q:VK,(∀H',fM H H'->Q res H')->t { nx:= λ _ H'=>Q .non H',rt:=Q } (start N [.ref a]) H):
  Jl P w K mg base (k+1) f fd ps D res:=by
 obtain⟨oc,od,kV,doc,pm,an,cdv,ct,ai,rfl,lk,ag⟩:=F.ex;refine⟨λ A outer s H args a o Q hr hh C hb z ea na nf hQ=>?_⟩;have KX:K.In s.heap:=C.mod.kin.keeps λ b o e=>(C.bs b o e).1;have lim:s.heap.NoLimit:=C.mod.nolimit.keeps λ b o e=>(C.bs b o e).1;have ae:∀y∈ps.zip [Value.ref a],(aX st).names.lookup y.1=some .local\/((aX st).names.lookup y.1=some .cell/\((cellsFrom (s.heap.objs.size+1) (aX st).names []).lookup y.1).isSome=true):= λ⟨n,v⟩ hy=>by
  rcases S.par n (List.of_mem_zip hy).1 with q|q
  .exact .inl q
  .exact .inr ⟨q,PySem.W.cellsFrom_some _ _ _ (.inl q)⟩
 refine codeAny_call_function hr.depth (KX _ _ lk) rfl S.co S.gen rfl (PySem.W.codeRec_of KX ag) (hb _ _ _ _ ?_);refine wpAny_newFunctionEnv_cells S.kind ae λ env he s1 x=>?_;subst he;refine⟨lim.keeps x.toInCall.keep,codeAny_func ?_⟩;obtain⟨t,ht,hq⟩:=ab cdv A outer s H a o z hh;have ah:u_ P w K mg base { A with handled:=none } outer s H:=⟨C.frames,C.mod,C.bs,C.bsz,C.funs,C.frf,C.hok,C.bare,C.tb⟩;have U:L2.Inv (eE d8 P w K mg base N qual (aX st) f cdv { A with handled:=none } outer s H λ _ _ _=>False) [] (start N [.ref a]) H s1:=my (vs:=[.ref a]) (us:=[.ref a]) S rfl ah af.symm (.cons rfl .nil) x;have ok:=U.ok;have I:L2.Inv (Hu P w K mg base N qual (aX st) f cdv A outer s H a o) [] (start N [.ref a]) H s1:=by
  refine⟨⟨ok.mod,ok.kind,ok.glob,ok.blt,ok.above,ok.inj,ok.has,ok.cab,(λ z=>Bool.noConfusion z),Around.frames_deeper C.frames,ok.stk,ok.exf,ok.bs,ok.bsz,ok.noex,ok.exfs,ok.funs,ok.frf,ok.tb⟩,U.os,U.bare,U.base,U.loc,U.cell,U.free,U.freeC,λ p hp=>?_,U.hok,U.len⟩;have hp:p=(a,o):=by simpa[Hu]using hp
  subst hp;refine⟨x.toInCall.keep _ _ ea,na,Nat.ne_of_lt (Heap.lt_size ea),nf,λ v q=>?_⟩;obtain⟨t,T,rfl⟩:=z;cases q
 refine wpAny_mono (ht [] s1 (start N [.ref a]) H _ I (hq Q hQ)) (λ fl s' hs=>?_) λ e s' hs=>False.elim hs;have fin:∀{aa:L2.St}{H':Hp}{v:V}{u:Value},L2.Inv (Hu P w K mg base N qual (aX st) f cdv A outer s H a o) [] aa H' s'->RelV v u->Q v H'->CE outer P w H s Q u s':=
  λ{aa H' v u} J rv q=>⟨v,H',J.os,J.bare,J.base,J.hok,rv,q⟩;cases fl with
 |ret u=>obtain⟨v,aa,H',J,rv,q⟩:=hs;exact fin J rv q
 |next=>obtain⟨aa,H',J,q⟩:=hs;exact fin (v:=V.non) (u:=Value.none) J rfl q
 |brk=>obtain⟨_,_,_,q⟩:=hs;simp_all
 |cont=>obtain⟨_,_,_,q⟩:=hs;exact False.elim q
end
noncomputable def Cy(i:Nat)(a:Addr)(res:V):TE:= λ σ H Q=>σ[i]?=some (some (.ref a))/\∀H',fM H H'->Q res H'
theorem xD{X:Cx}{i k:Nat}{f a D:Addr}{o:Obj}{fd:FuncData}{ps:List Str}{x y:Str}{res:V}{p p1 pos:Pos}(F:Jl X.prog X.w X.K X.mg X.base k f fd ps D res)(hr:Rm k X.A)(hh:X.A.handled=some (.ref a))(hp:(a,o)∈X.pn)(z:Au (.ref D) o)(hm:X.mg y=some (.ref f))(hk:PySem.W.keepIn X.K (.ref f)=true)(hb:Binds X.K fd ps [])(U:ps.length=1)
  (hN:X.N[i]?=some x:=by rfl)(hv:oZ X.env.scope x:=by first|exact Or.inl rfl|exact Or.inr (Or.inl rfl)|exact Or.inr (Or.inr rfl))(hg:Gl X y:=by rfl)(hd:(x==("__debug__":Str))=false:=by decide)(aa:(x==("__classdict__":Str))=false:=by decide)(hd2:(y==("__debug__":Str))=false:=by decide):
  PE X (.Call (.Name y p) [.Name x p1] [] pos) (Cy i a res):=by
 intro pins s σ H Q I h;refine wpAny_Call_Name_kw (fz I hg hm ?_ hd2);refine PySem.W.callWith_K (h₀:=X.base) I.ok.mod.kin hk (cp ((bh (cY hN hv hd aa) cb) pos pins s σ H (λ vs H1=>vs=[.ref a]/\H1=H) I ⟨_,h.1,rfl,rfl⟩) λ us s1 ⟨vs,H1,C,r,q1,q2⟩=>⟨C.kIn,?_⟩) rfl rfl;subst q1 q2;obtain⟨u,rfl,ru⟩:=r.one;cases ru;obtain⟨e1,n1,nl,nf,_⟩:=C.pin (a,o) (List.mem_append_left _ hp);have ns:a∉fT X.stack:= λ hm=>by
  rcases List.mem_cons.mp (C.stkSub a hm)with q|q
  .exact nl q
  simp_all
 refine wpAny_call (codeAny_mono (F.run X.A X.stack s1 H1 ⟨[.ref a],[]⟩ a o Q hr hh C.env0 (by simpa using hb s1 [.ref a] C.kIn (by simp[U])) z e1 n1 ns h.2) λ r s' J=>?_);cases r with
 |error e=>exact False.elim J
 |ok fl=>cases fl with
  |ret u=>exact C.after J
  |next=>exact False.elim J
  |brk=>exact False.elim J
  |cont=>exact False.elim J
end Jt
namespace Jt
open PySem L2
noncomputable def vo(I:Nat)(kinds:Addr->Option Str)(J:M (Fl⊕Addr)):M Fl:= λ U=>match J U with
 |some (.inl fl,o)=>some (fl,o)
 |some (.inr C,o)=>match kinds C,o[I]? with
  |some w,some .un=>some (.rt (.str w),o)
  |_,_=>none
 |none=>none
structure JK (P:Program) (w:World) (K:PySem.W.Frag) (mg:Str->Option Value) (base:Heap) (k:Nat) (f C0:Addr) (fd:FuncData) (ps:List Str) (kinds:Addr->Option Str):Prop where
 fn:∀C x,kinds C=some x->Jl P w K mg base k f fd ps C (.str x)
 ex:∀C x,kinds C=some x->PySem.W.exmOne K (.ref C) (.ref C0)=some true
section
variable {X:Cx} {body:List Stmt} {x n g:Str} {C0 f:Addr} {ie k:Nat} {fd:FuncData} {ps:List Str} {kinds:Addr->Option Str} {fx:M (Fl ⊕ Addr)} {p hpos pos pg pn pc pa:Pos}
noncomputable def K5(kinds:Addr->Option Str)(ie:Nat)(t:TE->TS)(a:Addr):Value->TS
 | .ref C=>match kinds C with
  |some w=>t (Cy ie a (.str w))
  |none=> λ _ _ _=>False
 |_=> λ _ _ _=>False
theorem B4(ie:Nat)(W:JK X.prog X.w X.K X.mg X.base k f C0 fd ps kinds)(hN:X.N.Nodup)(J:X.stack=X.env::X.outer)(hf:X.env.frame=some X.env.locals)(hb:lR X false body fx)(hr:bR k X.A)(hm:X.mg x=some (.ref C0))(U:X.mg g=some (.ref f))(hk:PySem.W.keepIn X.K (.ref f)=true)(aa:Binds X.K fd ps [])(ab:ps.length=1:=by rfl)
  (hi:X.N[ie]?=some n:=by rfl)(hl:X.env.kindOf n=some .local:=by rfl)(hg:Gl X x:=by rfl)(ae:Gl X g:=by rfl)(af:(x==("__debug__":Str))=false:=by decide)(hd:(n==("__debug__":Str))=false:=by decide)(ag:(n==("__classdict__":Str))=false:=by decide)(hd2:(g==("__debug__":Str))=false:=by decide):
  lQ X (.Try body [.ExceptHandler (some (.Name x p)) (some n) [.Return (some (.Call (.Name g pg) [.Name n pn] [] pc)) pa] hpos] [] [] pos) (vo ie kinds fx):=by
 refine iq (GP (Adm:= λ cls=>∃C w,cls= .ref C/\kinds C=some w) (th:=K5 kinds ie wq) hN J hf hb hg hm hi hl (λ cls ⟨C,w,e,hw⟩=>e▸W.ex C w hw) (λ a o cls z ⟨C,w,e,hw⟩=>?_) af) λ E σ H ⟨c,δ,S,T,fl,ah,s,e,q⟩=>?_;. subst e;show kE (hx X a o) _ (match kinds C with|some w=>wq (Cy ie a (.str w))|none=> λ _ _ _=>False);rw[hw];exact jH (jX (X:=hx X a o) (xD (X:=hx X a o) (W.fn C w hw) ((HV hr).mark _) rfl List.mem_cons_self z U hk aa ab hi (.inl hl) ae hd ag hd2))
 .unfold vo at e;split at e;. rename_i aq ai I;cases e;exact⟨c,δ,S,T,.inl _,_,s,I,q⟩
  .rename_i C ai I;split at e
   .rename_i w hw aj;cases e;refine⟨c,δ,S,T,.inr C,ah,s,I,λ ak H' s'=>⟨⟨⟨C,w,rfl,hw⟩,λ a na=>?_⟩,λ z=>nomatch z⟩⟩;show(match kinds C with|some w=>wq (Cy ie a (.str w))|none=> λ _ _ _=>False) _ _ _;rw[hw];have ao:ie<ak.length:=by rw[<- s'.len];exact(List.getElem?_eq_some_iff.mp aj).1
    refine⟨List.getElem?_set_self ao,λ H2 sm=>?_⟩;have s2:=s'.grow sm;exact q _ _ _ (s2.stk (S':= .str w::S) (T':= .str w::T) (.cons .mkS s2.st))
   .cases e
  .cases e
end
noncomputable def Jn(A:Around)(a:Addr)(o:Obj):Prop:=A.handled=some (.ref a)/\∃vs,o.data= .fields vs/\vs[2]?=some .none
theorem rB:entryFor table "proto.unchain"=some Builtin.«proto.unchain»:=entryFor_of_fast (by kernel_rfl)
section
variable {prog:Program} {w:World} {A:Around} {E:Value->Shared->Prop} {s:Shared} {a:Addr} {o:Obj}
theorem B7{x:Addr}{ox:Obj}{vs:Array Value}(C:Jn A a o)(J:s.heap.get? a=some o)(ex:s.heap.get? x=some ox)(hd:ox.data= .fields vs)(U:2<vs.size)(ne:a≠x)
  (hE:E (.ref x) { s with heap:=s.heap.update x (Obj.mapFields (·.setIfInBounds 2 (.ref a))) }):wpAny (model prog w) A (raiseNew (.ref x):Sem α) Q E s:=by obtain⟨C,us,I,hu⟩:=C;refine wpAny_bind (wpAny_handled ?_);rw[C];dsimp only;rw[if_pos (show(Value.ref a !=Value.ref x)=true by simp_all)];refine wpAny_bind (wpAny_holding (wpAny_runValue (codeAny_builtin rB ?_)));refine wpAny_bind (wpAny_field J I hu ?_);refine wpAny_pure (?_:wpAny _ _ (setField (.ref x) 2 (.ref a) >>= _) _ _ s);exact wpAny_bind (wpAny_setField ex hd U (wpAny_throw hE))
theorem j6(hh:Jn A a o)(ea:s.heap.get? a=some o)(na:a≠it)
  (hit:s.heap.IsListIter it l i)(hl:s.heap.IsList l items)(hx:items[i]?=none)
  (hQ:∀h',Heap.ExtBut it s.heap h'->Q none { s with heap:=h' }):wpAny (model prog w) A (pyNext (.ref it)) Q E s:=by obtain⟨o,C,hc,hd⟩:=id hit;obtain⟨ol,I,_,nl,J⟩:=hl;refine wpAny_bind (wpAny_attempt (wpAny_callSpecial?_slot (name:=Str.ofString "__next__") hit.typeIs slot_listiter_next
  (wpAny_call_entry slot_listiter_next hit.typeIs entry_listiter_next (?_:wpAny _ _ (field (.ref it) 0 >>= _) _ _ s) (args_listiter_next _))));refine wpAny_bind (wpAny_field C hd (x:= .ref l) rfl (?_:wpAny _ _ (if(Value.ref l==Value.none)=true then _ else _) _ _ s));refine wpAny_bind (wpAny_field C hd (x:= .int i 0) rfl (?_:wpAny _ _ (seqItems? (.ref l) >>= _) _ _ s));refine wpAny_bind (wpAny_seqItems I J ?_);simp[Int.toNat_natCast,hx];refine wpAny_bind (wpAny_rule (wpAny_bind (wpAny_setField C hd (by simp) (?_:wpAny _ _ (newExc (.type "StopIteration") [] >>= _) _ _ _))));refine wpAny_bind ?_;refine wpAny_bind (m:=firstArgMember _ _) (wpAny_of_eq (a:=Value.none) (by first|rfl|(simp)) ?_);refine wpAny_newObj_type ?_ (by size_fits);have U:Heap.ExtBut it s.heap (((s.heap.update it (Obj.mapFields (·.setIfInBounds 0 Value.none))).push { cls:= .type "tuple",data:= .seq ([]:List Value).toArray })):=(Heap.SameBut.update ..).extBut.push _;have aa:=Heap.get?_push_of_some { cls:= .type "StopIteration",data:= .fields (#[.ref (s.heap.update it (Obj.mapFields (·.setIfInBounds 0 Value.none))).objs.size,.none,.none,.none,.bool false,.none]++ownMembersOf (.type "StopIteration") []) } (U a _ na ea);refine B7 (A:=A.in1) hh aa (Heap.get?_push_size _ rfl) rfl (by rw[Array.size_append];exact Nat.lt_of_lt_of_le (by decide:2<6) (Nat.le_add_right _ _)) (Nat.ne_of_lt (Heap.lt_size (U a _ na ea))) ?_;refine wpAny_bind (wpAny_isInstance (T:="StopIteration") (b:=true) ⟨_,Heap.get?_update_self _ (Heap.get?_push_size _ rfl) rfl,rfl⟩ isSubtype_stop ?_);refine wpAny_pure (hQ _ λ c oc hc ec=>?_);have:=U c oc hc ec;exact(Heap.get?_update_other _ _ (Nat.ne_of_gt (Heap.lt_size this))).trans (Heap.get?_push_of_some _ this)
theorem Cm(hh:Jn A a o)(I J:Addr)(ab:J≠I)(U:a≠I)(items:Array Value):
  Walks prog w A I [I,J,a] [I] items.size (λ i v=>items[i]?=some v) (λ i h=>h.IsListIter I J i/\h.IsList J items/\h.get? a=some o) where
 sub:= λ b hb=>by grind
 frame:= λ _ _ _ st hk=>⟨st.1.at λ o e=>hk I (by simp) o e,st.2.1.at λ o e=>hk J (by simp) o e,hk a (by simp) _ st.2.2⟩
 item:= λ i s Q E hi st hQ=>by refine wpAny_pyNext_list_item st.1 st.2.1 (x:=items[i]) (by simp) λ h' aa C=>?_;exact hQ _ h' s.toks (by simp) ⟨aa,st.2.1.extBut C.extBut ab,C.extBut a o U st.2.2⟩ λ b o hb e=>C.extBut b o (λ h=>hb (by grind)) e
 done:= λ s Q E st hQ=>j6 hh st.2.2 U st.1 st.2.1 (by simp) λ h' ae=>hQ h' s.toks λ b o hb e=>ae b o (λ h=>hb (by simp[h])) e
 self:= λ _ _ _ _ st hQ=>wpAny_pyIter_listiter st.1 hQ
end
end Jt
namespace L2
open PySem PySem.Spec PyProof.Rows
noncomputable abbrev tests(ifs:List Expr)(env:Env):Sem Bool:=forIn ifs true λ c r=>if r=true then do let ok<- isTrue c env (eval c env);pure (ForInStep.yield ok)else pure (ForInStep.yield r)
section
variable {elt t1 i1 t2 i2:Expr} {ifs1 ifs2:List Expr} {scope:Scope} {pos:Pos}
noncomputable abbrev two(elt t1 i1:Expr)(ifs1:List Expr)(t2 i2:Expr)(ifs2:List Expr)(scope:Scope)(pos:Pos):Expr:= .ListComp elt [⟨t1,i1,ifs1,0⟩,⟨t2,i2,ifs2,0⟩] scope pos
end
end L2
namespace Jt
open PySem L2
mutual
noncomputable def py:D->PyData
 | .non=>.none
 | .bl b=>.bool b
 | .int i=>.int i
 | .str x=>.str x
 | .tup xs=>.tuple (J2 xs)
 | .lst xs=>.list (J2 xs)
 | .dct=>.dict []
 | .dic _=>.dict []
 | .dip _=>.dict []
noncomputable def J2:List D->List PyData
 | []=>[]
 | d :: r=>py d :: J2 r
end
section
variable {δ:DS} {α:Type}
theorem oBind (h:Ok m δ fun a o=>Ok (f a) o Q):Ok (m >>= f) δ Q:=bj.mpr h
theorem oPure (q:Q a δ):Ok (pure a) δ Q:=⟨a,δ,rfl,q⟩
theorem oGet (h:δ[i]? = some (.pu d)) (q:Q d δ):Ok (ck i) δ Q:=eP.mpr ⟨d,h,q⟩
theorem oPeek (h:δ[i]? = some (.ow b xs)) (q:Q xs δ):Ok (dC i) δ Q:=eW.mpr ⟨b,xs,h,q⟩
theorem oTake (h:δ[i]? = some (.ow false xs)) (q:Q xs (δ.set i .un)):Ok (mm i) δ Q:=zp.mpr ⟨xs,h,q⟩
theorem oLen (h:δ[i]? = some (.ow b xs)) (q:Q (.int xs.length) δ):Ok (qd i) δ Q:=qD.mpr ⟨b,xs,h,q⟩
theorem oLift (h:o=some a) (q:Q a δ):Ok (lift o) δ Q:=dF h q
theorem oCall (hn:ds.length=n) (h:f ds=some d) (q:Q d δ):Ok (lift (dH n f ds)) δ Q:=dF (by simp_all) q
theorem oCallF (hn:ds.length=n) (h:f ds=some d) (q:Q d δ):Ok (lift (dH n f ds)) δ Q:=dF (by simp_all) q
theorem oSet (h:Nat.blt i δ.length=true) (q:Q () (δ.set i (.pu d))):Ok (hV i d) δ Q:=dZ.mpr ⟨Nat.le_of_ble_eq_true h,q⟩
theorem oM1(h:Ok C δ λ x o=>Ok (lift (f x)) o Q):Ok (m1 f C) δ Q:=Jh.mpr h
theorem oM2(h:Ok I δ λ x o=>Ok J o λ y C=>Ok (lift (f x y)) C Q):Ok (m2 f I J) δ Q:=ij.mpr h
theorem oMC (h:Ok fs δ fun ds o=>Ok (lift (f ds)) o Q):Ok (mC f fs) δ Q:=fP.mpr h
theorem oMQ (h:Ok fs δ fun ds o=>Ok (lift (f ds)) o Q):Ok (mQ f fs) δ Q:=xX.mpr h
theorem oCons(h:Ok I δ λ x o=>Ok fs o λ xs C=>Q (x::xs) C):Ok (bw I fs) δ Q:=cG.mpr h
theorem oTup(h:Ok fs δ λ xs o=>xs.length<=100000/\Q (.tup xs) o):Ok (iy fs) δ Q:=Bp.mpr (h.mono λ _ _ q=>gn.mpr q)
theorem oLst(h:Ok fs δ λ xs o=>xs.length<=100000/\Q xs o):Ok (qo fs) δ Q:=Di.mpr (h.mono λ _ _ q=>gn.mpr q)
theorem oIf (h:Ok t δ fun b o=>if b=true then Ok C o Q else Ok I o Q):Ok (uQ t C I) δ Q:=zg.mpr h
theorem oAnd(h:Ok t δ λ b o=>if b=true then Ok u o Q else Q false o):Ok (rX t u) δ Q:=tK.mpr h
theorem oOr (h:Ok t δ fun b o=>if b=true then Q true o else Ok u o Q):Ok (Ht t u) δ Q:=FH.mpr h
theorem oNot(h:Ok t δ λ b o=>Q (!b) o):Ok (AK t) δ Q:=BA.mpr h
theorem oAsB (q:Q b δ):Ok (lB (.bl b)) δ Q:=rK.mpr ⟨b,rfl,q⟩
theorem oAsI (q:Q (some i) δ):Ok (Iz (.int i)) δ Q:=GU.mpr ⟨i,rfl,q⟩
inductive IxE (i:Nat) (Q:D->DS->Prop) (y:D) (o:DS):Prop
 | mk (h1:o[i]? = some (.ow b xs)) (h2:jk (.lst xs) y=some d) (q:Q d o):IxE i Q y o
inductive BxE (i n:Nat) (mf:List D->List D->Option (D × List D)) (Q:D->DS->Prop) (ds:List D) (o:DS):Prop
 | mk (h1:o[i]? = some (.ow b xs)) (h2:ds.length + 1=n) (h3:mf xs ds=some (d,C)) (q:Q d (o.set i (.ow b C))):BxE i n mf Q ds o
theorem oIxO (h0:δ[i]? = some (.ow b xs)) (h:Ok C δ (IxE i Q)):Ok (CK i C) δ Q :=
 oh.mpr ⟨⟨b,xs,h0⟩,h.mono fun _ _ ⟨e,h,q⟩=>⟨_,_,e,dF h q⟩⟩
theorem oBox(h:Ok fs δ (BxE i n o Q)):Ok (l3 i n o fs) δ Q:=
 uj.mpr (h.mono λ _ _ ⟨C,I,J,q⟩=>⟨_,_,C,I,(_,_),J,q⟩)
theorem oTurn{Q:Option D->DS->Prop}(h:Ok (gt d) δ λ _ C=>Ok tt C λ b o=>if b=true then Ok te o λ x I=>Q (some x) I else Q none o):Ok (cN gt tt te d) δ Q:=eI.mpr h
theorem oTg{Q:Unit->DS->Prop}(hn:ds.length=n)(h:Ok (g ds) δ Q):Ok (p8 n g (.tup ds)) δ Q:=BG.mpr ((if_pos hn).mpr h)
theorem oTc{Q:Unit->DS->Prop}(h:Ok (f d) δ λ _ o=>Ok (g ds) o Q):Ok (iU f g (d::ds)) δ Q:=vy.mpr h
theorem oTn(q:Q () δ):Ok (pk []) δ Q:=zd.mpr q
theorem oIsi{Q:D->DS->Prop}(h:Ok C δ λ d o=>Q (.bl (bJ T d)) o):Ok (l4 T C) δ Q:=Bx.mpr h
theorem oH2{Q:α->DS->Prop}(h:Ok U δ λ h1 o=>Ok fb o λ h2 C=>Ok (qI h1) C λ x I=>Ok (qI h2) I λ y J=>Ok (lift (g x y)) J Q):Ok (Aj g U fb) δ Q:=Ff.mpr h
theorem oRd{Q:D->DS->Prop}(q:Q x δ):Ok (qI (.th x)) δ Q:=E6.mpr q
theorem oRdL{Q:D->DS->Prop}(h:δ[i]?=some (.ow b xs))(q:Q (.lst xs) δ):Ok (qI (.ls i)) δ Q:=Gu.mpr ⟨b,xs,h,q⟩
theorem oOwn{Q:Hn->DS->Prop}(h:δ[i]?=some (.ow b xs))(q:Q (.ls i) δ):Ok (wU i) δ Q:=BJ.mpr ⟨b,xs,h,q⟩
theorem oConH(h:Ok J δ λ h o=>Ok fs o λ xs C=>Ok (qI h) C λ x I=>Q (x::xs) I):Ok (oy J fs) δ Q:=u5.mpr h
theorem oSl(h:Ok J δ λ x o=>Ok U o λ l C=>Ok fh C λ h I=>Ok (lift (uc x l h)) I Q):Ok (Jx J U fh) δ Q:=E7.mpr h
theorem oStP(h:Ok C δ λ d o=>Nat.blt i o.length=true/\Q .nx (o.set i (.pu d))):Ok (td i C) δ Q:=eF.mpr (h.mono λ _ _ q=>⟨Nat.le_of_ble_eq_true q.1,q.2⟩)
theorem oStO(h:Ok C δ λ d o=>Nat.blt i o.length=true/\Q .nx (o.set i (.ow false d))):Ok (G6 i C) δ Q:=GH.mpr (h.mono λ _ _ q=>⟨Nat.le_of_ble_eq_true q.1,q.2⟩)
theorem oSq(h:Ok C δ λ d o=>Nat.blt i o.length=true/\Ok g (o.set i (.pu d)) Q):Ok (d6 (td i C) g) δ Q:=cP.mpr (oStP h)
theorem oSqO(h:Ok C δ λ d o=>Nat.blt i o.length=true/\Ok g (o.set i (.ow false d)) Q):Ok (d6 (G6 i C) g) δ Q:=cP.mpr (oStO h)
theorem jt{Q:Fl->DS->Prop}(h:Ok t δ λ b o=>if b=true then Ok (d6 C g) o Q else Ok (d6 I g) o Q):Ok (d6 (uQ t C I) g) δ Q:=
 cP.mpr (zg.mpr (h.mono λ b o q=>by simp_all))
theorem oSqN(h:Ok g δ Q):Ok (d6 (pure .nx) g) δ Q:=cP.mpr (bB.mpr h)
theorem JO(h:Ok f δ λ C o=>match C with| .nx=>Ok (d6 g k) o Q|C=>Q C o):Ok (d6 (d6 f g) k) δ Q:=by refine cP.mpr (cP.mpr (h.mono λ C o q=>?_));cases C <;> first|exact cP.mp q|exact q
theorem oSqR{Q:Fl->DS->Prop}{m:M D}(h:Ok m δ λ d o=>Q (.rt d) o):Ok (d6 (do let d<- m;pure (Fl.rt d)) g) δ Q:=cP.mpr (bj.mpr (h.mono λ _ _ q=>bB.mpr q))
theorem AH(ds:List D)(I:Nat->DS->Prop)(U:Ok fi δ λ it C=>it=bF ds/\C=δ)(h0:I 0 δ)
  (ht:∀k(hk:k<ds.length) δ,I k δ->Ok (gt ds[k]) δ λ _ J=>Ok body J λ fl o=>match fl with
   | .nx=>I (k+1) o
   | .ct=>I (k+1) o
   | .bk=>Ok g o Q
   | .rt d=>Q (.rt d) o
   | .rf d=>Q (.rf d) o)(hQ:∀δ,I ds.length δ->Ok g δ Q):Ok (d6 (do let it<- fi;Jt.forM gt body it.2 it.1) g) δ Q:=cP.mpr (uC ds I U h0 (λ k hk δ h=>(ht k hk δ h).mono λ _ _ h=>h.mono λ fl _ h=>by omega) hQ)
theorem oSqSP(h:Ok C δ λ d o=>Nat.blt i o.length=true/\Ok (d6 g k) (o.set i (.pu d)) Q):Ok (d6 (d6 (td i C) g) k) δ Q:=JO (oStP h)
inductive PpE (i:Nat) (Q:D->DS->Prop):List D->DS->Prop
 | mk (j:Nat) (h1:o[i]? = some (.ow b xs)) (h2:j < 100000) (h3:xs[j]? = some d) (q:Q d (o.set i (.ow b (xs.eraseIdx j)))):PpE i Q [.int j] o
theorem oPop{Q:D->DS->Prop}(h0:δ[i]?=some (.ow b xs))(h:Ok fs δ (PpE i Q)):Ok (Cf i fs) δ Q:=nk ⟨b,xs,h0⟩ (h.mono λ _ _ ⟨j,o,C,I,q⟩=>⟨j,_,_,_,rfl,o,C,I,q⟩)
inductive ApE (i:Nat) (Q:Fl->DS->Prop):List D->DS->Prop
 | mk (h1:o[i]? = some (.ow b xs)) (h2:xs.length ≤ 100000) (q:Q .nx (o.set i (.ow b (xs ++ [d])))):ApE i Q [d] o
theorem oApp{Q:Fl->DS->Prop}(h0:δ[i]?=some (.ow b xs))(h:Ok fs δ (ApE i Q)):Ok (h_ i fs) δ Q:=kM ⟨b,xs,h0⟩ (h.mono λ _ _ ⟨o,C,q⟩=>⟨_,_,_,rfl,o,C,q⟩)
theorem oSqA{Q:Fl->DS->Prop}(h0:δ[i]?=some (.ow b xs))(h:Ok fs δ (ApE i λ _ o=>Ok g o Q)):Ok (d6 (h_ i fs) g) δ Q:=cP.mpr (oApp h0 (h.mono λ _ _ ⟨C,I,q⟩=>⟨C,I,q⟩))
inductive ChE (fc:M D) (r:D->D->Option D) (y:D) (Q:D->DS->Prop):D->DS->Prop
 | t (h:Ok fc o fun w J=>Ok (lift (r y w)) J Q):ChE fc r y Q (.bl true) o
 | f (q:Q (.bl false) o):ChE fc r y Q (.bl false) o
theorem oChn(h:Ok o δ λ x C=>Ok J C λ y I=>Ok (lift (U x y)) I (ChE fc r y Q)):Ok (Ik U r o J fc) δ Q:=
 GR.mpr (h.mono λ _ _ h=>h.mono λ _ _ h=>h.mono λ _ _ h=>by cases h <;> assumption)
theorem oT{A B:Prop}{b:Bool}(h:b=true)(q:A):if b=true then A else B:=(if_pos h).mpr q
theorem oF{A B:Prop}{b:Bool}(h:b=false)(q:B):if b=true then A else B:=(if_neg (Bool.not_eq_true _▸h)).mpr q
theorem oL(h:Nat.ble n 100000=true)(q:A):n<=100000/\A:=⟨Nat.le_of_ble_eq_true h,q⟩
end
end Jt
namespace Jt
open PySem L2 PySem.Spec PyProof.Rows
noncomputable def Gr(X:Cx):Prop:=∃a o,Jn X.A a o/\(a,o)∈X.pn
theorem sI{K:PySem.W.Frag}{tg:Expr}(a it:Addr):EC Gr P w K tg (IA K a) [it] it (λ i h=>h.IsListIter it a i) where
 obj:=(gF (P:=P) (w:=w) (K:=K) (tg:=tg) a it).obj
 keep:=(gF (P:=P) (w:=w) (K:=K) (tg:=tg) a it).keep
 item:=by intro X hP hw hK hc i pins s σ H E I hf st hg;subst hP hw hK;obtain⟨xs,x,U,hx⟩:=hg;obtain⟨its,rv,p,hz⟩:=I.list U;obtain⟨u,hu,ru⟩:=rv.get hx;obtain⟨f0,f1,f2,f3,f4,f5⟩:=hf it (by simp);refine wpAny_pyNext_list_item st p.isList (x:=u) (by simpa using hu) λ h' C sb=>?_;have I1:L2.Inv X pins σ H { s with heap:=h' }:=I.turned (t':=s.toks) (λ b o J e=>(sb.2 b J).trans e) f0 f1 f3 f4 f5;obtain⟨o,e,c,d⟩:=id C;exact⟨u,rfl,uI (s:={ s with heap:=h' }) e c d (by decide) ⟨x,H,I1,ru,⟨rfl,λ ys hy=>by rw[I.list_inj hy U];exact hx⟩,C,λ b J=>(hf b J).1⟩⟩
 done:=by intro X hP hw hK hc i pins s σ H E I hf st hg;subst hP hw hK;obtain⟨xs,U,hx⟩:=hg;obtain⟨its,rv,p,hz⟩:=I.list U;obtain⟨f0,f1,f2,f3,f4,f5⟩:=hf it (by simp);have hl:=rv.length;obtain⟨e,oe,hh,hm⟩:=hc;have hp:=I.pin (e,oe) (List.mem_append_left _ hm);exact j6 hh hp.1 (f5 (e,oe) (List.mem_append_left _ hm)) st p.isList (by simp;omega) λ h' eb=>⟨rfl,I.turned (t':=s.toks) (λ b o J e=>eb b o J e) f0 f1 f3 f4 f5⟩
 self:= λ _ _ _ _ _ st h=>wpAny_pyIter_listiter st h
section
variable {X:Cx} {elt tg iter l:Expr} {ifs:List Expr} {scope:Scope} {pos:Pos} {N' own:List Str} {wi:TI} {g:TG} {tt:TT} {te tl:TE}
theorem vh(J:PE X l tl):G9 Gr X tg l (lz X.K tl):=by
 intro pins s σ H R I h;refine cp (J pins s σ H _ I h) λ v s1 ⟨x,H1,C,U,q1⟩=>?_;obtain⟨a,e,⟨xs,hq⟩,q⟩:=q1;subst e;cases U;obtain⟨its,rv,p,hz⟩:=C.list hq;refine wpAny_pyIter_list p.isList ?_;refine⟨s1.heap.objs.size,[s1.heap.objs.size],_,_,H1,rfl,C.kept (t':=s1.toks) λ b o e=>Heap.get?_push_of_some _ e,sI a _,⟨_,Heap.get?_push_size _ rfl,rfl,rfl⟩,λ b hb=>?_,q⟩;have e:b=s1.heap.objs.size:=by simp_all
 subst e;exact C.fpOk (Nat.le_refl _) (C.hok.fresh (Nat.le_refl _))
theorem zV(J:Gr X)(U:G9 Gr X tg iter wi)(hg:∀s H fp pins,PG (blk X N' own scope s H fp pins) tg g)(ht:∀s H fp pins,sG (blk X N' own scope s H fp pins) ifs tt)(he:∀s H fp pins,PE (blk X N' own scope s H fp pins) elt te)
  (hS:dh N' own X.env.scope scope=true:=by rfl)(hM:di X.N N' scope=true:=by rfl)(hk:scope.kind= .function:=by rfl)(hs:∀x,foldedSetIterable iter X.env x=pure x:=by intro _;rfl):
  PE X (.ListComp elt [⟨tg,iter,ifs,0⟩] scope pos) (gQ wi own.length g tt te):=by intro pins s σ H Q I h;obtain⟨a,o,hh,hm⟩:=J;refine nV (use:=none) (cal:=Gr) (λ _ _ _ _=>⟨a,o,hh,List.mem_append_left _ hm⟩) U hk hS hM hg ht he hs I h λ l H' s' C m I' q hn h1 h2 h3 h4 h5=>?_;refine⟨m,hn,λ h' sb=>⟨.ref l,H',?_,rfl,q⟩⟩;exact I'.turned (t':=s'.toks) (λ b o hb e=>(sb.2 b hb).trans e) h1 h2 (.inr h3) h4 h5
noncomputable def kU:List V->Hp->VK->Prop:= λ xs H Q=>∃(l:Addr) (bs:List Bool),xs=[.ref l]/\H l=some (.lst (bs.map λ b=>V.int (if b then 1 else 0)))/\bs.length<=100/\Q (.int (bs.count true)) H
theorem zo(bs:List Bool):∀j,j<=bs.length->preSum (λ i=>if bs.getD i false then 1 else 0) j=((bs.take j).count true:Nat)
 |0,_=>rfl
 |j+1,h=>by show preSum _ j+_=_;rw[zo bs j (by omega),List.take_succ_eq_append_getElem (by omega)];grind
theorem uZ(hc:Gr X):cT X (.builtin "sum") kU:=by
 intro pins s σ H xs us Q I r h;obtain⟨l,bs,rfl,hl,hn,q⟩:=h;obtain⟨u,rfl,ru⟩:=r.one;cases ru;obtain⟨a,o,hh,hm⟩:=hc;have hp:=I.pin (a,o) (List.mem_append_left _ hm);obtain⟨its,rv,p,hz⟩:=I.list (show fG X.K H l _ from .inl (.inl hl));have hlen:=rv.length;rw[List.length_map]at hlen;have C:l<s.heap.objs.size:=by obtain⟨o,e,_⟩:=p.isList;exact Heap.lt_size e
 have J:=Heap.lt_size hp.1;refine call_sum_walk ?_;refine wpAny_pyIter_list p.isList ?_;refine⟨_,_,_,_,_,_,λ i=>if bs.getD i false then 1 else 0,rfl,Cm (A:=X.A.in1) hh s.heap.objs.size l (Nat.ne_of_lt C) (Nat.ne_of_lt J) its.toArray,⟨⟨_,Heap.get?_push_size _ rfl,rfl,rfl⟩,p.isList.push _,Heap.get?_push_of_some _ hp.1⟩,λ b U=>?_,λ i v hv=>?_,λ j hj=>?_,λ h' tk t' kp=>?_⟩
 .rw[Heap.size_push];simp at U;rcases U with rfl|rfl|rfl
  .exact Nat.lt_succ_self _
  .exact Nat.lt_succ_of_lt C
  .exact Nat.lt_succ_of_lt J
 .have aa:its[i]?=some v:=by simpa using hv
  have hi:i<bs.length:=by rw[hlen];exact(List.getElem?_eq_some_iff.mp aa).1
  obtain⟨u,hu,ru⟩:=rv.get (i:=i) (x:=V.int (if bs[i]then 1 else 0)) (by simp[hi]);obtain⟨t,rfl⟩:=ru;grind
 .have ab:j<bs.length:=by rw[hlen];simpa using hj
  refine⟨?_,?_⟩
  .dsimp only;split <;> exact⟨by decide,by decide⟩
  .rw[zo bs (j+1) ab];have:=List.count_le_length (a:=true) (l:=bs.take (j+1));rw[List.length_take]at this;exact⟨by omega,by omega⟩
 .have e:preSum (λ i=>if bs.getD i false then 1 else 0) its.toArray.size=((bs.count true:Nat):Int):=by rw[show its.toArray.size=bs.length by simp[hlen],zo bs _ (Nat.le_refl _),List.take_length]
  rw[e];refine⟨.int (bs.count true),H,?_,⟨t',rfl⟩,q⟩;exact I.kept (t':=tk) λ b o eb=>kp b o (λ U=>absurd (Heap.lt_size eb) (by rw[List.mem_singleton.mp U];exact Nat.lt_irrefl _)) (Heap.get?_push_of_some _ eb)
end
noncomputable def qg:List V->Hp->VK->Prop:= λ xs H Q=>(∃i,xs=[.int i]/\Q (.int i) H)\/ ∃k,xs=[.bl k]/\Q (.int (if k then 1 else 0)) H
theorem y4{K:PySem.W.Frag}{σ:L2.St}{H:Hp}{l:Addr}{bs:List Bool}{i0 n:Nat}{Q:VK}(aa:σ[i0]?=some (some (.ref l)))(hn:σ.length=n)(U:H l=some (.lst (bs.map V.bl)))(hlen:bs.length<=100)
  (hQ:∀I H',fM H H'->H' I=some (.lst (bs.map λ b=>V.int (if b then 1 else 0)))->Q (.ref I) H'):gQ (lz K (fK i0)) 1 (eD n) vO (wA qg (cx (fK n) i8)) σ H Q:=by
 refine⟨.ref l,aa,l,rfl,⟨_,.inl (.inl U)⟩,λ I J=>?_⟩;have ne:l≠I:= λ e=>by rw[e,J]at U;cases U
 refine⟨λ i m acc H'=>m=bs.length-i/\i<=bs.length/\acc=(bs.take i).map (λ b=>V.int (if b then 1 else 0))/\H'=upd H I (.lst acc),⟨bs.length,rfl,Nat.zero_le _,rfl,rfl⟩,?_⟩;rintro i m acc H' ⟨rfl,hi,rfl,rfl⟩;have hu:upd H I (.lst ((bs.take i).map λ b=>V.int (if b then 1 else 0))) l=some (.lst (bs.map V.bl)):=by rw[aZ ne];exact U
 refine⟨bf,?_⟩;by_cases C:i<bs.length
 .refine .inr ⟨⟨_,.bl bs[i],.inl (.inl hu),by simp[C]⟩,?_⟩;rintro x ab ⟨rfl,hx⟩;have hx:=hx _ (.inl (.inl hu));rw[List.getElem?_map,List.getElem?_eq_getElem C]at hx;cases hx;have hs:(σ++List.replicate 1 none).set n (some (.bl bs[i]))=σ++[some (.bl bs[i])]:=by subst hn;rw[List.set_append_right _ _ (Nat.le_refl _),Nat.sub_self];rfl
  refine⟨by rw[hs,List.take_left'] <;> rfl,?_⟩;refine⟨.bl bs[i],by subst hn;simp,.inr ⟨bs[i],rfl,bf,?_,bs.length-(i+1),by omega,rfl,C,?_,?_⟩⟩;. rw[List.length_map,List.length_take];exact Nat.lt_of_le_of_lt (Nat.min_le_right _ _) (Nat.lt_of_le_of_lt hlen (by decide))
  .rw[List.take_succ_eq_append_getElem C,List.map_append];rfl
  .rw[t_]
 .have:i=bs.length:=by omega
  subst this;refine .inl ⟨⟨_,.inl (.inl hu),by simp⟩,hQ I _ (λ b o e=>?_) ?_⟩;. rw[aZ (λ z=>by rw[z,J]at e;cases e)];exact e
  .rw[bf,List.take_length]
end Jt
namespace Jt
open PySem L2
structure Kn (P:Program) (w:World) (K:PySem.W.Frag) (mg:Str->Option Value) (base:Heap) (CX:tQ) (k:Nat) (x:Str) (ps:List Str) (sp:Sp):Prop where
 ex:∃f fd,cZ P w K mg base CX k f fd ps sp∧mg x=some (.ref f)∧PySem.W.keepIn K (.ref f)=true∧Binds K fd ps []
structure Ent (K:PySem.W.Frag) (mg:Str->Option Value) (x:Str) (ps:List Str) (st:Stmt):Prop where
 ex:∃f fd,wz K x x st f fd∧mg x=some (.ref f)∧Binds K fd ps []
structure Fh (K:PySem.W.Frag) (x:Str) (st:Stmt):Prop where
 ex:∃(f:Addr) (oc:Value) (od:Option Addr) (kV dc pm:Value) (an:Option Addr) (cd ct:Value) (sl:Array (Option Value)),PySem.W.nsIn K mainGlobals x=some (some (.ref f))∧K.lookup f=some ⟨oc,od,.func (PySem.W.fnOf x x (d4 st) (bA st) (aX st) .none kV dc pm an cd ct),sl⟩∧PySem.W.codeIn K cd x=true∧PySem.W.keepIn K (.ref f)=true
theorem fh_mk {kV dc pm cd ct:Value} (a:PySem.W.nsIn K mainGlobals x=some (some (.ref f))) (l:K.lookup f=some ⟨oc,od,.func (PySem.W.fnOf x x (d4 st) (bA st) (aX st) .none kV dc pm an cd ct),sl⟩) (c:PySem.W.codeIn K cd x=true) (k:PySem.W.keepIn K (.ref f)=true):Fh K x st:=⟨f,oc,od,kV,dc,pm,an,cd,ct,sl,a,l,c,k⟩
section
variable {P:Program} {w:World} {K:PySem.W.Frag} {mg:Str->Option Value} {base:Heap} {CX:tQ} {j k:Nat} {x:Str} {ps N:List Str} {sp:Sp} {st:Stmt} {body:M Fl}
theorem Kn.up(G:Kn P w K mg base CX j x ps sp)(h:j<=k):Kn P w K mg base CX k x ps sp:=let⟨⟨f,fd,F,m⟩⟩:=G;⟨⟨f,fd,F.mono h,m⟩⟩
theorem ent(X:K.In h)(G:h.Ns mainGlobals mg)(e:Fh K x st)(C:∀(kV doc pm:Value)(an:Option Addr)(cdv o:Value)(us:List Value),us.length=ps.length->bindArgs (PySem.W.fnOf x x (d4 st) (bA st) (aX st) .none kV doc pm an cdv o) ⟨us,[]⟩=pure (ps.zip us)):Ent K mg x ps st:=by obtain⟨⟨f,I,od,kV,J,pm,an,cd,o,sl,a,l,c,k⟩⟩:=e;have F:=qZ (st:=st) l c k;exact⟨⟨f,_,F,PySem.W.mg_of X G a,F.binds C⟩⟩
theorem Ky(E:Ent K mg x ps st)(S:bT N ps (aX st))(o:∀(f:Addr)(cdv:Value)(A:Around)(outer:List Env)(s:Shared)(H:Hp)(E:XK),bR k (A.deeper (PyProof.Rows.envOfC x (aX st) s.heap.objs.size f cdv))->mI (eE d8 P w K mg base N x (aX st) f cdv A outer s H E).nox (bA st) body):
  Kn P w K mg base d8 (k+1) x ps (qQ ps.length (cg N body)):=let⟨⟨f,fd,F,m,b⟩⟩:=E;⟨⟨f,fd,KO F S (o f),m,F.kp,b⟩⟩
theorem K6(E:Ent K mg x ps st)(S:bT N ps (aX st))(o:∀(f:Addr)(cdv:Value)(A:Around)(outer:List Env)(s:Shared)(H:Hp)(E:XK),bR k (A.deeper (PyProof.Rows.envOfC x (aX st) s.heap.objs.size f cdv))->mI (eE d8 P w K mg base N x (aX st) f cdv A outer s H E).nox (bA st) body):
  Kn P w K mg base d8 (k+1) x ps (G4 ps.length (i_ N body)):=let⟨⟨f,fd,F,m,b⟩⟩:=E;⟨⟨f,fd,KR F S (o f),m,F.kp,b⟩⟩
theorem Lg(E:Ent K mg x ps st)(S:bT N ps (aX st))(o:∀(f:Addr)(cdv:Value)(A:Around)(outer:List Env)(s:Shared)(H:Hp)(E:XK),bR k (A.deeper (PyProof.Rows.envOfC x (aX st) s.heap.objs.size f cdv))->mI (eE d8 P w K mg base N x (aX st) f cdv A outer s H E).nox (bA st) body):
  Kn P w K mg base d8 (k+1) x ps (GX ps.length (gN N body)):=let⟨⟨f,fd,F,m,b⟩⟩:=E;⟨⟨f,fd,KY F S (o f),m,F.kp,b⟩⟩
theorem C5(E:Ent K mg x ps st):Kn P w K mg base d8 k x ps (qQ n λ _=>none):=let⟨⟨f,fd,F,m,b⟩⟩:=E;⟨⟨f,fd,Dr,m,F.kp,b⟩⟩
theorem JJ{l:PySem.W.OpenLaw}{o:Addr}{st:Stmt}(X:K.In h)(G:h.Ns mainGlobals mg)(C:mg "law"=some (.ref o))(e:Fh K "law" st)(U:∀(kV I pm:Value)(an:Option Addr)(cd J:Value)(s:Shared)(v:Value),BindsTo s (PySem.W.fnOf "law" "law" (d4 st) (bA st) (aX st) .none kV I pm an cd J) ⟨[v],[]⟩ [("_law_script",v)])
  {N:List Str}{body:M Fl}(S:bT N ["_law_script"] (aX st))
  (hG:∀(base:Heap)(f:Addr)(cdv:Value)(A:Around)(outer:List Env)(s:Shared)(H:Hp)(E:XK),bR k (A.deeper (PyProof.Rows.envOfC "law" (aX st) s.heap.objs.size f cdv))->mI (eE d8 l.prog w K mg base N "law" (aX st) f cdv A outer s H E).nox (bA st) body)
  {Sq:Sp}(hS:∀base f fd,cZ l.prog w K mg base d8 (k+1) f fd ["_law_script"] (qQ 1 (cg N body))->cZ l.prog w K mg base d8 (k+1) f fd ["_law_script"] Sq):
  ∃fd:FuncData,(∀(s:Shared)(v:Value),BindsTo s fd ⟨[v],[]⟩ [("_law_script",v)])/\∀base:Heap,K.In base->base.Ns mainGlobals mg->cZ l.prog w K mg base d8 (k+1) o fd ["_law_script"] Sq:=by obtain⟨⟨f,oc,od,kV,I,pm,an,cd,J,sl,a,l,c,kp⟩⟩:=e;have e:=C.symm.trans (PySem.W.mg_of X G a);cases e;exact⟨_,U kV I pm an cd J,λ base _ _=>hS base _ _ (KO (qZ (st:=st) l c kp) S (hG base o))⟩
end
section
variable {X:Cx} {k:Nat} {x:Str} {ps:List Str} {a:Expr} {es:List Expr} {fs:M (List D)} {p pos:Pos}
theorem bu{n:Nat}(G:Kn X.prog X.w X.K X.mg X.base d8 k x ps (qQ n mf))(I:bR k X.A)(J:DA X (a::es) fs)
  (U:Gl X x:=by rfl)(o:(x==("__debug__":Str))=false:=by decide)(he:starEach (a::es) X.env=(false,eval a X.env)::starEach es X.env:=by rfl)(C:(backTo pos (starEach es X.env)).any (·.1)=false:=by rfl):
  DE X (.Call (.Name x p) (a::es) [] pos) (mC (λ ds=>if ds.length=n then mf ds else none) fs):=let⟨⟨_,_,F,m,c,b⟩⟩:=G;BW F I m c b J U o he C
theorem kR{n:Nat}(G:Kn X.prog X.w X.K X.mg X.base d8 k x ps (G4 n mf))(I:bR k X.A)(J:DA X (a::es) fs)
  (U:Gl X x:=by rfl)(o:(x==("__debug__":Str))=false:=by decide)(he:starEach (a::es) X.env=(false,eval a X.env)::starEach es X.env:=by rfl)(C:(backTo pos (starEach es X.env)).any (·.1)=false:=by rfl):
  DF X (.Call (.Name x p) (a::es) [] pos) (mC (λ ds=>if ds.length=n then mf ds else none) fs):=let⟨⟨_,_,F,m,c,b⟩⟩:=G;Bg F I m c b J U o he C
theorem vb{n:Nat}(G:Kn X.prog X.w X.K X.mg X.base d8 k x ps (qQ n mf))(I:bR k X.A)(J:Iy X (a::es) fs)
  (U:Gl X x:=by rfl)(o:(x==("__debug__":Str))=false:=by decide)(he:starEach (a::es) X.env=(false,eval a X.env)::starEach es X.env:=by rfl)(C:(backTo pos (starEach es X.env)).any (·.1)=false:=by rfl):
  DE X (.Call (.Name x p) (a::es) [] pos) (mC (vf n mf) fs):=let⟨⟨_,_,F,m,c,b⟩⟩:=G;wC F I m c b J U o he C
theorem bp(i:Nat){mf:List D->List D->Option (D×List D)}{n:Nat}{y:Str}{py:Pos}(G:Kn X.prog X.w X.K X.mg X.base d8 k x ps (GX n mf))(J:bR k X.A)(U:DA X es fs)
  (hN:X.N[i]?=some y:=by rfl)(hv:oZ X.env.scope y:=by first | exact Or.inl rfl | exact Or.inr (Or.inl rfl) | exact Or.inr (Or.inr rfl))(hd:(y==("__debug__":Str))=false:=by decide)(o:(y==("__classdict__":Str))=false:=by decide)
  (hg:Gl X x:=by rfl)(C:(x==("__debug__":Str))=false:=by decide)(he:starEach (.Name y py::es) X.env=(false,eval (.Name y py) X.env)::starEach es X.env:=by rfl)(I:(backTo pos (starEach es X.env)).any (·.1)=false:=by rfl):
  DE X (.Call (.Name x p) (.Name y py::es) [] pos) (do let _<- dC i;l3 i n mf fs):=let⟨⟨_,_,F,m,c,b⟩⟩:=G;u7 i F J m c b U hN hv hd o hg C he I
theorem qm{p:Pos}(h:∃t,X.mg x=some (.int v t))(o:Gl X x:=by rfl)(hd:(x==("__debug__":Str))=false:=by decide):DE X (.Name x p) (pure (.int v)):=let⟨_,m⟩:=h;yF m o hd
end
section
variable {P:Program} {w:World} {K:PySem.W.Frag} {mg:Str->Option Value} {base:Heap} {k:Nat} {x:Str} {ps N:List Str} {st:Stmt}
theorem Lj(E:Ent K mg x ps st)(S:bT N ps (aX st))(o:∀(f:Addr)(cdv:Value)(A:Around)(outer:List Env)(s:Shared)(H:Hp)(E:XK),bR k (A.deeper (PyProof.Rows.envOfC x (aX st) s.heap.objs.size f cdv))->lR (eE (lG P w) P w K mg base N x (aX st) f cdv A outer s H E) true (bA st) body):
  Kn P w K mg base (lG P w) (k+1) x ps (Ao ps.length (eO N body)):=let⟨⟨f,fd,F,m,b⟩⟩:=E;⟨⟨f,fd,fnX F S (o f),m,F.kp,b⟩⟩
end
section
variable {X:Cx} {k:Nat} {x:Str} {ps:List Str} {a:Expr} {es:List Expr} {p pos:Pos}
theorem vA (G:Kn X.prog X.w X.K X.mg X.base (lG X.prog X.w) k x ps (Ao n mf)) (hr:bR k X.A) (ha:GY X (a :: es) fxs)
  (hg:Gl X x:=by rfl) (hdb:(x == ("__debug__":Str))=false:=by decide) (he:starEach (a :: es) X.env=(false,eval a X.env) :: starEach es X.env:=by rfl) (hpl:(backTo pos (starEach es X.env)).any (·.1)=false:=by rfl) :
  FJ X (.Call (.Name x p) (a :: es) [] pos) (bX fxs fun ds=>lift (if ds.length=n then mf ds else none)):=let ⟨⟨_,_,F,m,c,b⟩⟩:=G;y0 F hr m c b ha hg hdb he hpl
end
section
variable {P:Program} {w:World} {K:PySem.W.Frag} {mg:Str->Option Value} {base:Heap} {CX:tQ} {j k:Nat} {x:Str} {ps N:List Str} {sp:Sp} {st:Stmt}
theorem Kn.u (G:Kn P w K mg base CX j x ps sp) (h:j ≤ k:=by decide):Kn P w K mg base CX k x ps sp:=G.up h
theorem G_ {P:List Value->Prop} (h:P []) (us:List Value) (e:us.length=0):P us:=by cases us with | nil=>exact h | cons=>cases e
theorem qU {P:List Value->Prop} {n:Nat} (h:∀a us,us.length=n->P (a :: us)) (us:List Value) (e:us.length=n + 1):P us:=by cases us with | nil=>cases e | cons a r=>exact h a r (Nat.succ.inj e)
theorem dM {h:Heap} (X:K.In h) (G:h.Ns mainGlobals mg) (e:Fh K x st) (hb:∀(kV doc pm:Value) (an:Option Addr) (cdv ct:Value) (us:List Value),us.length=ps.length->bindArgs (PySem.W.fnOf x x (d4 st) (bA st) (aX st) .none kV doc pm an cdv ct) ⟨us,[]⟩=pure (ps.zip us):= by
  intro _ _ _ _ _ _
  first
  | exact G_ rfl
  | exact qU fun _=>G_ rfl
  | exact qU fun _=>qU fun _=>G_ rfl
  | exact qU fun _=>qU fun _=>qU fun _=>G_ rfl
  | exact qU fun _=>qU fun _=>qU fun _=>qU fun _=>G_ rfl
  | exact qU fun _=>qU fun _=>qU fun _=>qU fun _=>qU fun _=>G_ rfl):Ent K mg x ps st:=ent X G e hb
noncomputable abbrev Bd (P:Program) (w:World) (K:PySem.W.Frag) (mg:Str->Option Value) (base:Heap) (k:Nat) (N:List Str) (x:Str) (st:Stmt) (body:M Fl):Prop :=
 N.Nodup->∀(f:Addr) (cdv:Value) (A:Around) (outer:List Env) (s:Shared) (H:Hp) (E:XK),bR k (A.deeper (PyProof.Rows.envOfC x (aX st) s.heap.objs.size f cdv))->mI (eE d8 P w K mg base N x (aX st) f cdv A outer s H E).nox (bA st) body
theorem JS {body:M Fl} (E:Ent K mg x ps st) (hb:Bd P w K mg base k N x st body) (S:bT N ps (aX st):=by exact ⟨rfl,rfl,rfl,by decide +kernel,rfl,by decide +kernel,by decide +kernel⟩):Kn P w K mg base d8 (k + 1) x ps (qQ ps.length (cg N body)):=Ky E S (hb S.nd)
end
noncomputable abbrev Zq:=Shared × Hp × List Addr × List (Addr × Obj)
noncomputable abbrev bk (X:Cx) (N' own:List Str) (scope:Scope) (z:Zq):Cx:=blk X N' own scope z.1 z.2.1 z.2.2.1 z.2.2.2
structure Cp (X:Cx) (elt tg iter:Expr) (ifs:List Expr) (scope:Scope) (N' own:List Str) (lo n:Nat) (fi:M jB) (gt:D->M Unit) (tt:M Bool) (te:M D):Prop where
 hn:own.length=n
 hi:DC X tg iter fi
 hg:∀z,DG (bk X N' own scope z) lo tg gt
 ht:∀z,sG (bk X N' own scope z) ifs (vR tt)
 he:∀z,DE (bk X N' own scope z) elt te
 hS:dh N' own X.env.scope scope=true
 hM:di X.N N' scope=true
 hk:scope.kind=.function
 hc:X.calm=true
 hs:∀x,foldedSetIterable iter X.env x=pure x
section
variable {X:Cx} {elt tg iter t:Expr} {ifs:List Expr} {scope:Scope} {fi:M jB} {gt:D->M Unit} {tt:M Bool} {te:M D} {pos p:Pos}
theorem KN (N' own:List Str) (lo:Nat) {n:Nat} (hi:DC X tg iter fi) (hg:(N' ++ own).Nodup->∀z,DG (bk X N' own scope z) lo tg gt) (ht:∀z,sG (bk X N' own scope z) ifs (vR tt)) (he:∀z,DE (bk X N' own scope z) elt te) (nd:(N' ++ own).Nodup:=by decide +kernel) (hn:own.length=n:=by rfl)
  (hS:dh N' own X.env.scope scope=true:=by rfl) (hM:di X.N N' scope=true:=by rfl) (hk:scope.kind=.function:=by rfl) (hc:X.calm=true:=by rfl) (hs:∀x,foldedSetIterable iter X.env x=pure x:=by intro _;rfl):Cp X elt tg iter ifs scope N' own lo n fi gt tt te:=⟨hn,hi,hg nd,ht,he,hS,hM,hk,hc,hs⟩
theorem zM (N':List Str) (x:Str) (lo:Nat) (hi:DC X (.Name x p) iter fi) (ht:∀z,DT (bk X N' [x] scope z) t tt) (he:∀z,DE (bk X N' [x] scope z) elt te) (nd:(N' ++ [x]).Nodup:=by decide +kernel) (h1:(N' ++ [x])[lo]? = some x:=by rfl) (h2:∀z,Loc (bk X N' [x] scope z).env.scope x:=by intro _;first | exact Or.inl rfl | exact Or.inr rfl)
  (h3:∀z,(bk X N' [x] scope z).fn x=true ∨ (bk X N' [x] scope z).env.scope.names.lookup x=some .local:=by intro _;first | exact .inl rfl | exact .inr rfl)
  (hS:dh N' [x] X.env.scope scope=true:=by rfl) (hM:di X.N N' scope=true:=by rfl) (hk:scope.kind=.function:=by rfl) (hc:X.calm=true:=by rfl) (hs:∀x,foldedSetIterable iter X.env x=pure x:=by intro _;rfl):Cp X elt (.Name x p) iter [t] scope N' [x] lo 1 fi (hV lo) tt te :=
 ⟨rfl,hi,fun z=>bO lo nd (Nat.le_refl _) h1 (h2 z) (h3 z),fun z=>DU (ht z),he,hS,hM,hk,hc,hs⟩
theorem tx (N':List Str) (x:Str) (lo:Nat) (hi:DC X (.Name x p) iter fi) (he:∀z,DE (bk X N' [x] scope z) elt te) (nd:(N' ++ [x]).Nodup:=by decide +kernel) (h1:(N' ++ [x])[lo]? = some x:=by rfl) (h2:∀z,Loc (bk X N' [x] scope z).env.scope x:=by intro _;first | exact Or.inl rfl | exact Or.inr rfl)
  (h3:∀z,(bk X N' [x] scope z).fn x=true ∨ (bk X N' [x] scope z).env.scope.names.lookup x=some .local:=by intro _;first | exact .inl rfl | exact .inr rfl)
  (hS:dh N' [x] X.env.scope scope=true:=by rfl) (hM:di X.N N' scope=true:=by rfl) (hk:scope.kind=.function:=by rfl) (hc:X.calm=true:=by rfl) (hs:∀x,foldedSetIterable iter X.env x=pure x:=by intro _;rfl):Cp X elt (.Name x p) iter [] scope N' [x] lo 1 fi (hV lo) (pure true) te :=
 ⟨rfl,hi,fun z=>bO lo nd (Nat.le_refl _) h1 (h2 z) (h3 z),fun _=>jD,he,hS,hM,hk,hc,hs⟩
variable {N' own:List Str} {lo n:Nat}
theorem cW (c:Cp X elt tg iter ifs scope N' own lo n fi gt tt te):DF X (.ListComp elt [⟨tg,iter,ifs,0⟩] scope pos) (fe lo n fi (cN gt tt te)):= by
 obtain ⟨rfl,hi,hg,ht,he,hS,hM,hk,hc,hs⟩:=c
 exact Dw hi (fun s H fp pins=>hg (s,H,fp,pins)) (fun s H fp pins=>ht (s,H,fp,pins)) (fun s H fp pins=>he (s,H,fp,pins)) hS hM hk hc hs
theorem m_ (i:Nat) {x:Str} {pos'' pos1:Pos} (hN:X.N.Nodup) (c:Cp X elt tg iter ifs scope N' own lo n fi gt tt te) (hx0:X.N[i]? = some x:=by rfl) (hx:X.env.scope.names.lookup x=some .local:=by rfl)
  (hsw:swapsWith (.ListComp elt [⟨tg,iter,ifs,0⟩] scope pos) (some (.Name x pos'')) pos1.line X.env=pure true:=by rfl) :
  lQ X (.Assign [.Name x pos''] (.ListComp elt [⟨tg,iter,ifs,0⟩] scope pos) pos1) (td i (do let xs <- fe lo n fi (cN gt tt te);pure (.lst xs))):= by
 obtain ⟨rfl,hi,hg,ht,he,hS,hM,hk,hc,hs⟩:=c
 exact zx i hN hi (fun s H fp pins=>hg (s,H,fp,pins)) (fun s H fp pins=>ht (s,H,fp,pins)) (fun s H fp pins=>he (s,H,fp,pins)) hx0 hx hsw hS hM hk hc hs
end
structure Cw where
 P:Program
 w:World
 K:PySem.W.Frag
 mg:Str->Option Value
 base:Heap
noncomputable abbrev HP (n:Nat) (x:Str) (N:List Str) (b:M Fl) (c:Cw) (k:Nat):Prop:=Kn c.P c.w c.K c.mg c.base d8 k x (N.take n) (qQ n (cg N b))
noncomputable abbrev HF (n:Nat) (x:Str) (N:List Str) (b:M Fl) (c:Cw) (k:Nat):Prop:=Kn c.P c.w c.K c.mg c.base d8 k x (N.take n) (G4 n (i_ N b))
noncomputable abbrev HB (n:Nat) (x:Str) (N:List Str) (b:M Fl) (c:Cw) (k:Nat):Prop:=Kn c.P c.w c.K c.mg c.base d8 k x (N.take n) (GX n (gN N b))
noncomputable abbrev HX (n:Nat) (x:Str) (N:List Str) (b:M (Fl ⊕ Addr)) (c:Cw) (k:Nat):Prop:=Kn c.P c.w c.K c.mg c.base (lG c.P c.w) k x (N.take n) (Ao n (eO N b))
structure Pk {α:Type} (H:Nat->Str->List Str->α->Cw->Nat->Prop) (n:Nat) (x:Str) (N:List Str) (st:Stmt) (φ:Cw->Nat->Prop->Prop) where
 m:α
 h:∀{c:Cw} {k:Nat},Ent c.K c.mg x (N.take n) st->φ c k (H n x N m c (k + 1))
noncomputable abbrev Pk.H {α:Type} {H:Nat->Str->List Str->α->Cw->Nat->Prop} {n:Nat} {x:Str} {N:List Str} {st:Stmt} {φ:Cw->Nat->Prop->Prop} (p:Pk H n x N st φ):Cw->Nat->Prop:=H n x N p.m
structure Kx (N:List Str) (st:Stmt) (φ:Cw->Nat->Prop->Prop) where
 m:M Fl
 h:∀{c:Cw} {k:Nat} {f:Addr} {cdv:Value} {A:Around} {outer:List Env} {s:Shared} {H:Hp} {E:XK},bR k (A.deeper (PyProof.Rows.envOfC "law" (aX st) s.heap.objs.size f cdv))->φ c k (mI (eE d8 c.P c.w c.K c.mg c.base N "law" (aX st) f cdv A outer s H E).nox (bA st) m)
noncomputable abbrev Kd (c:Cw) (k:Nat) (a cJ:Addr) (d:FuncData) (kn:Addr->Option Str):Prop:=JK c.P c.w c.K c.mg c.base k a cJ d ["_law_e"] kn∧c.mg "JoinError" = some (.ref cJ)∧c.mg "_law_kind" = some (.ref a)∧PySem.W.keepIn c.K (.ref a)=true∧Binds c.K d ["_law_e"] []
noncomputable abbrev Ex (c:Cw) (x:Str) (a:Addr):Prop:=c.mg x=some (.ref a)∧PySem.W.excIn c.K a [.type "ValueError",.type "Exception",.type "BaseException",.type "object"] "ValueError.__new__" = true
section
variable {P:Program} {w:World} {K:PySem.W.Frag} {mg:Str->Option Value} {base:Heap} {k:Nat} {x:Str} {ps N:List Str} {st:Stmt}
theorem kP {body:M Fl} (E:Ent K mg x ps st) (hb:∀{f:Addr} {cdv:Value} {A:Around} {outer:List Env} {s:Shared} {H:Hp} {E:XK},N.Nodup->bR k (A.deeper (PyProof.Rows.envOfC x (aX st) s.heap.objs.size f cdv))->mI (eE d8 P w K mg base N x (aX st) f cdv A outer s H E).nox (bA st) body) (S:bT N ps (aX st):=by exact ⟨rfl,rfl,rfl,by decide +kernel,rfl,by decide +kernel,by decide +kernel⟩):Kn P w K mg base d8 (k + 1) x ps (qQ ps.length (cg N body)):=Ky E S fun _ _ _ _ _ _ _ r=>hb S.nd r
theorem kF {body:M Fl} (E:Ent K mg x ps st) (hb:∀{f:Addr} {cdv:Value} {A:Around} {outer:List Env} {s:Shared} {H:Hp} {E:XK},N.Nodup->bR k (A.deeper (PyProof.Rows.envOfC x (aX st) s.heap.objs.size f cdv))->mI (eE d8 P w K mg base N x (aX st) f cdv A outer s H E).nox (bA st) body) (S:bT N ps (aX st):=by exact ⟨rfl,rfl,rfl,by decide +kernel,rfl,by decide +kernel,by decide +kernel⟩):Kn P w K mg base d8 (k + 1) x ps (G4 ps.length (i_ N body)):=K6 E S fun _ _ _ _ _ _ _ r=>hb S.nd r
theorem kB {body:M Fl} (E:Ent K mg x ps st) (hb:∀{f:Addr} {cdv:Value} {A:Around} {outer:List Env} {s:Shared} {H:Hp} {E:XK},N.Nodup->bR k (A.deeper (PyProof.Rows.envOfC x (aX st) s.heap.objs.size f cdv))->mI (eE d8 P w K mg base N x (aX st) f cdv A outer s H E).nox (bA st) body) (S:bT N ps (aX st):=by exact ⟨rfl,rfl,rfl,by decide +kernel,rfl,by decide +kernel,by decide +kernel⟩):Kn P w K mg base d8 (k + 1) x ps (GX ps.length (gN N body)):=Lg E S fun _ _ _ _ _ _ _ r=>hb S.nd r
theorem kX {body:M (Fl ⊕ Addr)} (E:Ent K mg x ps st) (hb:∀{f:Addr} {cdv:Value} {A:Around} {outer:List Env} {s:Shared} {H:Hp} {E:XK},N.Nodup->bR k (A.deeper (PyProof.Rows.envOfC x (aX st) s.heap.objs.size f cdv))->lR (eE (lG P w) P w K mg base N x (aX st) f cdv A outer s H E) true (bA st) body) (S:bT N ps (aX st):=by exact ⟨rfl,rfl,rfl,by decide +kernel,rfl,by decide +kernel,by decide +kernel⟩):Kn P w K mg base (lG P w) (k + 1) x ps (Ao ps.length (eO N body)):=Lj E S fun _ _ _ _ _ _ _ r=>hb S.nd r
end
end Jt
namespace Jt
open PySem L2
open PyProof.Rows (AllBare)
section
variable {X:Cx} {a c:Expr} {es:List Expr} {pos:Pos}
theorem wg {te:TE} {t:KG} (hf:PE X.nox c te) (ha:Er X (a :: es) t) (hc:eval (.Call c (a :: es) [] pos) X.env=(do
   let f <- eval c X.env
   callWith pos f [] (backTo pos (starEach (a :: es) X.env)) (backToKw pos (keywordEach [] X.env))):=by rfl)
  (he:starEach (a :: es) X.env=(false,eval a X.env) :: starEach es X.env:=by rfl) (hpl:(backTo pos (starEach es X.env)).any (·.1)=false:=by rfl) :
  C7 X (.Call c (a :: es) [] pos) (fun σ H Q W=>te σ H fun v H1=>∃(k:Nat) (f:Addr) (fd:FuncData) (ps:List Str) (sp:Sp),v=.ref f∧cZ X.prog X.w X.K X.mg X.base (lG X.prog X.w) k f fd ps sp∧bR k X.A∧PySem.W.keepIn X.K (.ref f)=true∧Binds X.K fd ps []∧t σ H1 (fun vs H2=>sp vs H2 Q (fun c _ H'=>W σ c H')) W):= by
 intro pins s σ H Q W I h
 rw [hc]
 refine wpAny_bind (wpAny_mono (hf pins s σ H _ (I.wish _) h) (fun u s1 ⟨x,H1,I1,rx,k,f,fd,ps,sp,ex,F,hr,hk,hb,q⟩=>?_) fun _ _ z=>False.elim z)
 subst ex
 obtain rfl:u=Value.ref f:=rx
 have I1:=I1.unwish
 refine PySem.W.callWith_K (h₀:=X.base) I.ok.mod.kin hk (cp (ha pos pins s1 σ H1 _ W I1 q) fun us s2 ⟨vs,H2,I2,r,q⟩=>⟨I2.kIn,?_⟩) he hpl
 have r2:Vals (vs ++ []) (us ++ []):=by simpa using r
 have q2:sp (vs ++ []) H2 Q (fun c _ H'=>W σ c H'):=by simpa using q
 have hl:(us ++ []).length=ps.length:=by rw [<- r2.length];exact F.len _ _ _ _ q2
 refine wpAny_call (codeAny_mono (F.run X.A X.stack s2 H2 ⟨us,[]⟩ (us ++ []) (vs ++ []) Q (fun c _ H'=>W σ c H') hr I2.env0 (hb s2 us I2.kIn hl) r2 q2) fun r s' hq=>?_)
 cases r with
 | error e=>exact ⟨σ,H2,s2,I2,hq⟩
 | ok fl=>
  cases fl with
  | ret u=>exact I2.after hq
  | next=>exact False.elim hq
  | brk=>exact False.elim hq
  | cont=>exact False.elim hq
noncomputable def t8 (m0 m1 m2:List D->Option (D ⊕ Addr)):D->Option (List D->Option (D ⊕ Addr))
 | .int 0=>some m0
 | .int 1=>some m1
 | .int 2=>some m2
 | _=>none
theorem ra {m0 m1 m2 mf:List D->Option (D ⊕ Addr)} {d:D} (h:t8 m0 m1 m2 d=some mf):(d=.int 0∧mf=m0) ∨ (d=.int 1∧mf=m1) ∨ (d=.int 2∧mf=m2):= by
 unfold t8 at h
 split at h
 .cases h;exact .inl ⟨rfl,rfl⟩
 .cases h;exact .inr (.inl ⟨rfl,rfl⟩)
 .cases h;exact .inr (.inr ⟨rfl,rfl⟩)
 .cases h
theorem vk {k n:Nat} {x0 x1 x2 y:Str} {ps0 ps1 ps2:List Str} {m0 m1 m2:List D->Option (D ⊕ Addr)} {fxs:M (List D ⊕ Addr)} {p0 p1 p2 p3 p4 p5:Pos} (i:Nat)
  (G0:Kn X.prog X.w X.K X.mg X.base (lG X.prog X.w) k x0 ps0 (Ao n m0)) (G1:Kn X.prog X.w X.K X.mg X.base (lG X.prog X.w) k x1 ps1 (Ao n m1)) (G2:Kn X.prog X.w X.K X.mg X.base (lG X.prog X.w) k x2 ps2 (Ao n m2)) (hr:bR k X.A) (ha:GY X (a :: es) fxs)
  (hN:X.N[i]? = some y:=by rfl) (hv:oZ X.env.scope y:=by first | exact Or.inl rfl | exact Or.inr (Or.inl rfl) | exact Or.inr (Or.inr rfl)) (hd:(y == ("__debug__":Str))=false:=by decide) (hcd:(y == ("__classdict__":Str))=false:=by decide)
  (g0:Gl X x0:=by rfl) (g1:Gl X x1:=by rfl) (g2:Gl X x2:=by rfl) (d0:(x0 == ("__debug__":Str))=false:=by decide) (d1:(x1 == ("__debug__":Str))=false:=by decide) (d2:(x2 == ("__debug__":Str))=false:=by decide)
  (hc:eval (.Call (.Subscript (.List [.Name x0 p0,.Name x1 p1,.Name x2 p2] p3) (.Name y p4) p5) (a :: es) [] pos) X.env=(do
   let f <- eval (.Subscript (.List [.Name x0 p0,.Name x1 p1,.Name x2 p2] p3) (.Name y p4) p5) X.env
   callWith pos f [] (backTo pos (starEach (a :: es) X.env)) (backToKw pos (keywordEach [] X.env))):=by rfl)
  (he:starEach (a :: es) X.env=(false,eval a X.env) :: starEach es X.env:=by rfl) (hpl:(backTo pos (starEach es X.env)).any (·.1)=false:=by rfl) :
  FJ X (.Call (.Subscript (.List [.Name x0 p0,.Name x1 p1,.Name x2 p2] p3) (.Name y p4) p5) (a :: es) [] pos) (do let d <- ck i;let mf <- lift (t8 m0 m1 m2 d);bX fxs fun ds=>lift (if ds.length=n then mf ds else none)):= by
 obtain ⟨⟨f0,fd0,F0,e0,c0,b0⟩⟩:=G0
 obtain ⟨⟨f1,fd1,F1,e1,c1,b1⟩⟩:=G1
 obtain ⟨⟨f2,fd2,F2,e2,c2,b2⟩⟩:=G2
 refine xx (wg (tu n_ (iW (bh (jR (X:=X.nox) g0 e0 (v:=.ref f0) rfl d0) (bh (jR (X:=X.nox) g1 e1 (v:=.ref f1) rfl d1) (bh (jR (X:=X.nox) g2 e2 (v:=.ref f2) rfl d2) cb)))) (cY (X:=X.nox) hN hv hd hcd) (fun _ _=>rfl)) ha hc he hpl) fun σ H Q W ⟨c,δ,S,T,r,δ',s,e,q⟩=>?_
 obtain ⟨d,δ0,ed,e5⟩:=bind_some e
 obtain ⟨hd0,rfl⟩:=i4 ed
 obtain ⟨mf,δ1,em,e6⟩:=bind_some e5
 obtain ⟨hm0,rfl⟩:=ba em
 obtain ⟨v,ev,rv⟩:=s.pu i d hd0
 refine ⟨show 3 ≤ sizeLine by decide,fun p hp=>⟨v,ev,?_⟩⟩
 have s0:=s.grow (dt hp (.lst [.ref f0,.ref f1,.ref f2]))
 have go:∀(j:Nat) (f:Addr) (fd:FuncData) (ps:List Str) (mf:List D->Option (D ⊕ Addr)),d=.int (j:Int)->[V.ref f0,V.ref f1,V.ref f2][j]? = some (.ref f)->cZ X.prog X.w X.K X.mg X.base (lG X.prog X.w) k f fd ps (Ao n mf)->PySem.W.keepIn X.K (.ref f)=true->Binds X.K fd ps [] ->
   (bX fxs fun ds=>lift (if ds.length=n then mf ds else none)) δ=some (r,δ')->IU X.K (.ref p) v (upd H p (.lst [.ref f0,.ref f1,.ref f2])) fun v H1=>∃(k:Nat) (f:Addr) (fd:FuncData) (ps:List Str) (sp:Sp),v=.ref f∧cZ X.prog X.w X.K X.mg X.base (lG X.prog X.w) k f fd ps sp∧bR k X.A∧PySem.W.keepIn X.K (.ref f)=true∧Binds X.K fd ps []∧Gs fxs σ H1 (fun vs H2=>sp vs H2 Q (fun c _ H'=>W σ c H')) W:= by
  rintro j f fd ps mf rfl hj F hk hb e
  have:=rv.int
  subst this
  refine .inl ⟨p,_,(j:Int),.ref f,rfl,rfl,.inl (.inl bf),L2.atI_nat hj,k,f,fd,ps,_,rfl,F,hr,hk,hb,?_⟩
  rcases fv e with ⟨ds,δ1,e1,e⟩ | ⟨C,e1,rfl⟩
  .obtain ⟨e2,rfl⟩:=ba e
   refine ⟨c,δ,S,T,.inl ds,δ1,s0,e1,fun vs H1 l s1=>?_⟩
   split at e2
   .rename_i hn
    refine ⟨l.trans hn,yY c δ1 σ H1,ds,r,kN s1,(s1.st.left l).mono (bq (fun a o _ z=>(d3 s1 a).mp z) fun _ _ _ h=>h),e2,?_⟩
    cases r with
    | inl d=>
     intro v H' g r
     have s2:=s1.grow g
     exact q v H' (s2.stk (.cons (r.mono (bq (fun a o _ z=>(d3 s1 a).mpr z) fun _ _ _ h=>h)) (s2.st.right l)))
    | inr C=>exact fun H' g=>q H' ((s1.grow g).drop l)
   .cases e2
  .exact ⟨c,δ,S,T,.inr C,δ',s0,e1,q⟩
 rcases ra hm0 with ⟨hd,rfl⟩ | ⟨hd,rfl⟩ | ⟨hd,rfl⟩
 .exact go 0 f0 fd0 ps0 _ hd rfl F0 c0 b0 e6
 .exact go 1 f1 fd1 ps1 _ hd rfl F1 c1 b1 e6
 .exact go 2 f2 fd2 ps2 _ hd rfl F2 c2 b2 e6
end
end Jt
namespace L2
open PySem
noncomputable def Ij(h:Heap)(d:Addr):Prop:=∃o es,h.get? d=some o/\o.data= .dict es es.size
theorem Ij.of (h1:h.get? d=some o) (h2:o.data=.dict es n) (h3:n=es.size):Ij h d:=⟨o,es,h1,h3 ▸ h2⟩
section
variable {prog:Program} {w:World} {K:Type} [DecidableEq K] {knd:HeapKind prog w K} {A:Around} {E:Value->Shared->Prop} {s:Shared}
theorem sH{d a:Addr}{xs:List (K×Addr×Value)}{k:K}{v:Value}{Q:Unit->Shared->Prop}(hu:knd.room A)(C:knd.is s.heap k a)(hm:s.heap.DictOfH knd d xs)(ae:Ij s.heap d)
  (hQ:∀h',h'.DictOfH knd d (storedH xs k a v)->Ij h' d->Heap.SameBut d s.heap h'->Q () { s with heap:=h',toks:=s.toks+knd.draws k })
  (hsz:xs.length<=sizeLine:=by size_fits):
  wpAny (model prog w) A (dictSet d (.ref a) v) Q E s:=by
 obtain⟨o,es,ep,I,hc,hd,he,U,hn⟩:=hm;obtain⟨o2,af,aa,hd2⟩:=ae;rw[I]at aa;cases aa;rw[hd]at hd2;cases hd2;unfold dictSet;try with_reducible refine wpAny_holding ?_
 refine wpAny_bind (knd.pyHash hu C ?_);unfold dictSetHashed;try with_reducible refine wpAny_holding ?_
 refine wpAny_bind (wpAny_dictFind_heap (s:={ s with toks:=s.toks+knd.draws k }) hu C I hd he U hn ?_ ?_)
 .intro J;have ab:k∉xs.map (·.1):=not_mem_keys_of_get J;refine wpAny_bind (wpAny_rule (wpAny_updateDictKeys (hz:=by have e:=size_of_entries he;omega) (s:={ s with toks:=s.toks+knd.draws k }) I hd (hQ _ ⟨_,_,es.size+1,Heap.get?_update_self _ I (Obj.isFreed_of_dict (Obj.data_mapDictKeys hd _)),
   hc.mapDictKeys _,Obj.data_mapDictKeys hd _,?_,?_,?_⟩ (.of (Heap.get?_update_self _ I (Obj.isFreed_of_dict (Obj.data_mapDictKeys hd _))) (Obj.data_mapDictKeys hd _) ?_) (Heap.SameBut.update ..))));. rw[storedH_new (atKey_none_of_get J)];simp[he,entryOfKey]
  .rw[storedH_new (atKey_none_of_get J)];intro x hx;rcases List.mem_append.mp hx with hx|hx
   .exact knd.keeps (U x hx) I hd (Heap.SameBut.update ..)
   .simp[List.mem_singleton]at hx;subst hx;exact knd.keeps C I hd (Heap.SameBut.update ..)
  .rw[storedH_new (atKey_none_of_get J),List.map_append,List.nodup_append];refine⟨hn,by simp,?_⟩;intro x hx y hy;simp at hy;subst hy;exact λ e=>ab (e▸hx)
  simp
 .intro j p hj;refine wpAny_bind (wpAny_rule (wpAny_bind (wpAny_updateDict (s:={ s with toks:=s.toks+knd.draws k }) I hd (wpAny_point (hQ _ ⟨_,_,es.size,Heap.get?_update_self _ I (Obj.isFreed_of_dict (Obj.data_mapDict hd _)),
   hc.mapDict _,Obj.data_mapDict hd _,?_,?_,?_⟩ (.of (Heap.get?_update_self _ I (Obj.isFreed_of_dict (Obj.data_mapDict hd _))) (Obj.data_mapDict hd _) ?_) (Heap.SameBut.update ..))))));. rw[storedH_old (atKey_of_get hn hj)];have:=modify_map_putAt (entryOfKey knd) (λ e:DictEntry=>{ e with val:=v }) k v (λ _ _=>rfl) hn hj;rw[<- he]at this;simpa using this
  .rw[storedH_old (atKey_of_get hn hj)];intro x hx;obtain⟨y,hy,rfl⟩:=List.mem_map.mp hx;unfold putAt;split <;> exact knd.keeps (U y hy) I hd (Heap.SameBut.update ..)
  .rw[storedH_old (atKey_of_get hn hj),keys_map_putAt];exact hn
  .simp
end
end L2
namespace L2
open PySem PySem.Spec PyProof.Rows
section
variable {κ:Type} [DecidableEq κ]
noncomputable def valV (kvs:List (κ × V)) (k:κ):Option V:=(kvs.find? fun kv=>decide (kv.1=k)).map (·.2)
noncomputable def putK (kvs:List (κ × V)) (k:κ) (v:V):List (κ × V) :=
 if (kvs.any fun kv=>decide (kv.1=k))=true then kvs.map (fun kv=>if kv.1=k then (kv.1,v) else kv) else kvs ++ [(k,v)]
theorem valV_pos {p:κ × V} {r:List (κ × V)} {k:κ} (e:p.1=k):valV (p :: r) k=some p.2:=by simp [valV,List.find?_cons,e]
theorem valV_neg {p:κ × V} {r:List (κ × V)} {k:κ} (e:¬ p.1=k):valV (p :: r) k=valV r k:=by simp [valV,List.find?_cons,e]
theorem valV_any (k:κ):∀kvs:List (κ × V),(kvs.any fun kv=>decide (kv.1=k))=(valV kvs k).isSome
 | []=>rfl
 | p :: r=>by
  rw [List.any_cons]
  by_cases e:p.1=k
  .simp only [valV_pos e,decide_eq_true e,Bool.true_or,Option.isSome_some]
  .rw [valV_neg e,decide_eq_false e,Bool.false_or];exact valV_any k r
theorem length_putK (kvs:List (κ × V)) (k:κ) (v:V):(putK kvs k v).length ≤ kvs.length + 1:= by
 unfold putK
 split
 .rw [List.length_map];omega
 .rw [List.length_append,List.length_cons,List.length_nil];omega
theorem RelO.isSome_eq {o:Option V} {u:Option Value} (r:RelO o u):o.isSome=u.isSome:= by
 cases o with
 | none=>cases u with
  | none=>rfl
  | some _=>exact (show False from r).elim
 | some _=>cases u with
  | none=>exact (show False from r).elim
  | some _=>rfl
theorem KV.val {kvs:List (κ × V)} {vs:List (κ × Value)} (r:KV kvs vs) (k:κ):RelO (valV kvs k) (valueAt vs k):= by
 unfold KV at r
 induction r with
 | nil=>exact True.intro
 | @cons p q ps qs h t ih=>
  obtain ⟨h1,h2⟩:=h
  by_cases e:p.1=k
  .have e':q.1=k:=h1.symm.trans e
   have b:valueAt (q :: qs) k=some q.2:=by simp [valueAt,List.find?_cons,e']
   rw [valV_pos e,b];exact h2
  .have e':¬ q.1=k:=fun z=>e (h1.trans z)
   have b:valueAt (q :: qs) k=valueAt qs k:=by simp [valueAt,List.find?_cons,e']
   rw [valV_neg e,b];exact ih
theorem KV.any {kvs:List (κ × V)} {vs:List (κ × Value)} (r:KV kvs vs) (k:κ):(kvs.any fun kv=>decide (kv.1=k))=vs.any fun kv=>decide (kv.1=k):= by
 unfold KV at r
 induction r with
 | nil=>rfl
 | cons h t ih=>rw [List.any_cons,List.any_cons,ih,h.1]
theorem KV.repl {kvs:List (κ × V)} {vs:List (κ × Value)} (r:KV kvs vs) (k:κ) {y:V} {u:Value} (ry:RelV y u) :
  KV (kvs.map fun kv=>if kv.1=k then (kv.1,y) else kv) (vs.map fun kv=>if kv.1=k then (kv.1,u) else kv):= by
 unfold KV at r ⊢
 induction r with
 | nil=>exact .nil
 | @cons p q ps qs h t ih=>
  rw [List.map_cons,List.map_cons]
  refine .cons ?_ ih
  obtain ⟨h1,h2⟩:=h
  by_cases e:p.1=k
  .rw [if_pos e,if_pos (h1.symm.trans e)];exact ⟨h1,ry⟩
  .rw [if_neg e,if_neg (fun z=>e (h1.trans z))];exact ⟨h1,h2⟩
theorem KV.put {kvs:List (κ × V)} {vs:List (κ × Value)} (r:KV kvs vs) (k:κ) {y:V} {u:Value} (ry:RelV y u):KV (putK kvs k y) (stored vs k u):= by
 unfold putK stored
 rw [r.any k]
 by_cases e:(vs.any fun kv=>decide (kv.1=k))=true
 .rw [if_pos e,if_pos e];exact r.repl k ry
 .rw [if_neg e,if_neg e];exact Paired.snoc r ⟨rfl,ry⟩
theorem KV.length {kvs:List (κ × V)} {vs:List (κ × Value)} (r:KV kvs vs):kvs.length=vs.length:=Paired.length r
end
theorem kV_is {P:Program} {w:World} {k:Key} {u:Value} (r:RelV (kV k) u):(cm P w).is k u=true:= by
 cases k with
 | inl i=>obtain ⟨t,e⟩:=(show ∃t,u=Value.int i t from r);subst e;exact qh P w i t
 | inr x=>obtain ⟨t,e⟩:=(show ∃t,u=Value.str x t from r);subst e;exact oQ P w x t
theorem items_are {P:Program} {w:World}:∀{ks:List Key} {us:List Value},Vals (ks.map kV) us->ItemsAre (cm P w) ks us
 | [],_,r=>by rw [List.map_nil] at r;cases r;exact .nil
 | k :: ks,_,r=>by
  rw [List.map_cons] at r
  cases r with
  | cons h t=>exact .cons (kV_is h) (items_are t)
noncomputable abbrev KT (H:Hp):List (List Key × V)->List (List Key × Addr × Value)->Prop:=Paired fun p q=>p.1=q.1∧H q.2.1=some (.tup (p.1.map kV))∧RelV p.2 q.2.2
theorem KT.val {H:Hp} {kvs:List (List Key × V)} {xs:List (List Key × Addr × Value)} (r:KT H kvs xs) (k:List Key):RelO (valV kvs k) ((atKey xs k).map (·.2)):= by
 induction r with
 | nil=>exact True.intro
 | @cons p q ps qs h t ih=>
  obtain ⟨h1,_,h2⟩:=h
  by_cases e:p.1=k
  .have e':q.1=k:=h1.symm.trans e
   have b:atKey (q :: qs) k=some q.2:=by simp [atKey,List.find?_cons,e']
   rw [valV_pos e,b];exact h2
  .have e':¬ q.1=k:=fun z=>e (h1.trans z)
   have b:atKey (q :: qs) k=atKey qs k:=by simp [atKey,List.find?_cons,e']
   rw [valV_neg e,b];exact ih
theorem KT.repl {H:Hp} {kvs:List (List Key × V)} {xs:List (List Key × Addr × Value)} (r:KT H kvs xs) (k:List Key) {y:V} {u:Value} (ry:RelV y u) :
  KT H (kvs.map fun kv=>if kv.1=k then (kv.1,y) else kv) (xs.map (putAt k u)):= by
 induction r with
 | nil=>exact .nil
 | @cons p q ps qs h t ih=>
  rw [List.map_cons,List.map_cons]
  refine .cons ?_ ih
  obtain ⟨h1,h2,h3⟩:=h
  unfold putAt
  by_cases e:p.1=k
  .rw [if_pos e,if_pos (h1.symm.trans e)];exact ⟨h1,h2,ry⟩
  .rw [if_neg e,if_neg (fun z=>e (h1.trans z))];exact ⟨h1,h2,h3⟩
theorem KT.put {H:Hp} {kvs:List (List Key × V)} {xs:List (List Key × Addr × Value)} (r:KT H kvs xs) (k:List Key) {b:Addr} {y:V} {u:Value} (hb:H b=some (.tup (k.map kV))) (ry:RelV y u) :
  KT H (putK kvs k y) (storedH xs k b u):= by
 have e:(kvs.any fun kv=>decide (kv.1=k))=(atKey xs k).isSome:= by
  rw [valV_any,(r.val k).isSome_eq,Option.isSome_map]
 unfold putK storedH
 rw [e]
 by_cases q:(atKey xs k).isSome=true
 .rw [if_pos q,if_pos q];exact r.repl k ry
 .rw [if_neg q,if_neg q];exact Paired.snoc r ⟨rfl,hb,ry⟩
theorem KT.keeps {H H':Hp} {kvs:List (List Key × V)} {xs:List (List Key × Addr × Value)} (r:KT H kvs xs) (ht:∀b ys,H b=some (.tup ys)->H' b=some (.tup ys)):KT H' kvs xs :=
 Paired.mapP r fun _ _ z=>⟨z.1,ht _ _ z.2.1,z.2.2⟩
section
variable {P:Program} {w:World} {H:Hp} {h:Heap} {a:Addr}
theorem rd_of {u:HO} (ok:gU P w H h) (e:Rd H a u):cu P w H h a u:=e.ok ok
theorem dk_rd {kvs:List (Key × V)} (ok:gU P w H h) (e:Rd H a (.dK kvs)):kvs.length ≤ sizeLine∧(a == sysModules)=false∧∃vs,KV kvs vs∧h.DictOf (cm P w) a vs :=
 show cu P w H h a (.dK kvs) from rd_of ok e
theorem dk_of {kvs:List (Key × V)} (ok:gU P w H h) (e:H a=some (.dK kvs)):kvs.length ≤ sizeLine∧(a == sysModules)=false∧∃vs,KV kvs vs∧h.DictOf (cm P w) a vs:=dk_rd ok (.inl e)
theorem key_of {ks:List Key} (ok:gU P w H h) (e:H a=some (.tup (ks.map kV))):(tupleKind (cm P w)).is h ks a:= by
 obtain ⟨_,its,r,⟨o,h1,h2,n,h3⟩,_⟩:=(show cu P w H h a (.tup (ks.map kV)) from ok a _ e)
 exact ⟨o,its.toArray,n,h1,h2,h3,by simpa using items_are r⟩
theorem dt_rd {kvs:List (List Key × V)} (ok:gU P w H h) (e:Rd H a (.dT kvs)):kvs.length ≤ sizeLine∧(a == sysModules)=false ∧
  ∃xs,KT H kvs xs∧h.DictOfH (tupleKind (cm P w)) a xs:= by
 obtain ⟨z,y,xs,r,o,es,ep,h1,h2,h3,h4,h5⟩:=(show cu P w H h a (.dT kvs) from rd_of ok e)
 refine ⟨z,y,xs,r,o,es,ep,h1,h2,h3,h4,fun x hx=>?_,h5.1⟩
 have all:∀{l:List (List Key × V)} {m:List (List Key × Addr × Value)},KT H l m->∀x ∈ m,(tupleKind (cm P w)).is h x.1 x.2.1:= by
  intro l m q
  induction q with
  | nil=>intro x hx;exact nomatch hx
  | @cons p q ps qs hq t ih=>
   intro x hx
   rcases List.mem_cons.mp hx with e | hx
   .subst e
    exact key_of ok (by rw [<- hq.1];exact hq.2.1)
   .exact ih x hx
 exact all r x hx
theorem dt_of {kvs:List (List Key × V)} (ok:gU P w H h) (e:H a=some (.dT kvs)):kvs.length ≤ sizeLine∧(a == sysModules)=false ∧
  ∃xs,KT H kvs xs∧h.DictOfH (tupleKind (cm P w)) a xs:=dt_rd ok (.inl e)
end
theorem dt_ep {P:Program} {w:World} {H:Hp} {h:Heap} {a:Addr} {kvs:List (List Key × V)} (ok:gU P w H h) (e:Rd H a (.dT kvs)):Ij h a:= by
 obtain ⟨z,y,xs,r,o,es,ep,h1,h2,h3,h4,h5,h6⟩:=(show cu P w H h a (.dT kvs) from rd_of ok e)
 exact .of h1 h3 h6
noncomputable def DGet (H:Hp) (a:Addr) (y:V) (r:Option V):Prop :=
 (∃kvs k,Rd H a (.dK kvs)∧y=kV k∧r=valV kvs k) ∨ ∃kvs k b,Rd H a (.dT kvs)∧y=.ref b∧H b=some (.tup (k.map kV))∧r=valV kvs k
noncomputable def DPut (H:Hp) (a:Addr) (y v:V) (H':Hp):Prop :=
 (∃kvs k,H a=some (.dK kvs)∧y=kV k∧kvs.length < sizeLine∧H' = upd H a (.dK (putK kvs k v))) ∨
 ∃kvs k b,H a=some (.dT kvs)∧y=.ref b∧H b=some (.tup (k.map kV))∧kvs.length < sizeLine∧H' = upd H a (.dT (putK kvs k v))
theorem DGet.k {H:Hp} {a:Addr} {kvs:List (Key × V)} {k:Key} (e:H a=some (.dK kvs)):DGet H a (kV k) (valV kvs k):=.inl ⟨kvs,k,.inl e,rfl,rfl⟩
theorem DGet.t {H:Hp} {a b:Addr} {kvs:List (List Key × V)} {k:List Key} (e:H a=some (.dT kvs)) (eb:H b=some (.tup (k.map kV))):DGet H a (.ref b) (valV kvs k):=.inr ⟨kvs,k,b,.inl e,rfl,eb,rfl⟩
theorem DPut.k {H:Hp} {a:Addr} {kvs:List (Key × V)} {k:Key} {v:V} (e:H a=some (.dK kvs)) (hl:kvs.length < sizeLine):DPut H a (kV k) v (upd H a (.dK (putK kvs k v))):=.inl ⟨kvs,k,e,rfl,hl,rfl⟩
section
variable {X:Cx} {pins:List (Addr × Obj)} {σ:St} {H:Hp} {s:Shared} {a:Addr} {y v:V} {u:Value} {o:Option V} {A:Around} {E:Value->Shared->Prop}
theorem Inv.big (I:Inv X pins σ H s):sysModules < s.heap.objs.size:= by
 have h:mainGlobals < s.heap.objs.size:=(I.mod.glob.keeps I.bk).lt
 exact Nat.lt_trans (by decide) h
theorem d_getItem {Q:Value->Shared->Prop} (hu:A.units + 1 < cLine) (I:Inv X pins σ H s) (g:DGet H a y (some v)) (ry:RelV y u) (h:∀w' s',Inv X pins σ H s' -> RelV v w' -> Q w' s') :
  wpAny (model X.prog X.w) A (getItem (.ref a) u) Q E s:= by
 rcases g with ⟨kvs,k,e,ey,l⟩ | ⟨kvs,k,b,e,ey,eb,l⟩
 .subst ey
  obtain ⟨z,hd,vs,rel,dd⟩:=dk_rd I.hok e
  obtain ⟨w',hw,rw'⟩:=RelO.some_of (v:=v) (o:=valueAt vs k) (by rw [l];exact rel.val k)
  exact wpAny_getItem_of (kV_is ry) dd.mapOf hw (h w' _ (I.tok _) rw')
 .subst ey
  cases (show u=Value.ref b from ry)
  obtain ⟨z,hd,xs,rel,dd⟩:=dt_rd I.hok e
  obtain ⟨w',hw,rw'⟩:=RelO.some_of (v:=v) (o:=(atKey xs k).map (·.2)) (by rw [l];exact rel.val k)
  obtain ⟨p,hp,hp2⟩:=Option.map_eq_some_iff.mp hw
  refine wpAny_getItem_heap (tupleKind_room_in1 hu) (key_of I.hok eb) dd hp ?_
  rw [hp2]
  exact h w' _ (I.tok _) rw'
theorem d_write {h':Heap} {t':Nat} {ob:HO} (I:Inv X pins σ H s) (mu:Je (H a)) (hs:Heap.SameBut a s.heap h') (he:∃q,h'.get? a=some q) (new:cu X.prog X.w (upd H a ob) h' a ob) :
  Inv X pins σ (upd H a ob) { s with heap:=h',toks:=t' } :=
 I.write (x:=a) (e:=a) mu (.inl rfl) (fun b q hb z=>(hs.2 b hb).trans z) he new
theorem dk_new {P:Program} {w:World} {H':Hp} {h':Heap} {kvs:List (Key × V)} {vs:List (Key × Value)} (z:kvs.length ≤ sizeLine) (hd:(a == sysModules)=false) (rel:KV kvs vs) (dd:h'.DictOf (cm P w) a vs) :
  cu P w H' h' a (.dK kvs):=⟨z,hd,vs,rel,dd⟩
end
theorem dict_typeIs {X:Cx} {pins:List (Addr × Obj)} {σ:St} {H:Hp} {s:Shared} {a:Addr} {y:V} {o:Option V} (I:Inv X pins σ H s) (g:DGet H a y o):s.TypeIs (.ref a) "dict":= by
 rcases g with ⟨kvs,k,e,_,_⟩ | ⟨kvs,k,b,e,_,_,_⟩
 .obtain ⟨_,_,vs,_,dd⟩:=dk_rd I.hok e
  exact dd.typeIs
 .obtain ⟨_,_,xs,_,dd⟩:=dt_rd I.hok e
  exact dd.typeIs
theorem dk_empty {P:Program} {w:World} {H:Hp} (h:Heap) (hb:sysModules < h.objs.size):cu P w H (h.push { cls:=.type "dict",data:=.dict #[] }) h.objs.size (.dK []) :=
 ⟨Nat.zero_le _,beq_eq_false_iff_ne.mpr (Ne.symm (Nat.ne_of_lt hb)),[],.nil,Heap.DictOf.new h⟩
theorem dt_empty {P:Program} {w:World} {H:Hp} (h:Heap) (hb:sysModules < h.objs.size):cu P w H (h.push { cls:=.type "dict",data:=.dict #[] }) h.objs.size (.dT []) :=
 ⟨Nat.zero_le _,beq_eq_false_iff_ne.mpr (Ne.symm (Nat.ne_of_lt hb)),[],.nil,_,#[],0,Heap.get?_push_size _ rfl,⟨rfl,rfl,rfl⟩,rfl,rfl,List.nodup_nil,rfl⟩
noncomputable def mergeK (kvs more:List (Key × V)):List (Key × V):=more.foldl (fun acc kv=>putK acc kv.1 kv.2) kvs
theorem KV.merge:∀{more:List (Key × V)} {rs:List (Key × Value)} {kvs:List (Key × V)} {vs:List (Key × Value)},KV more rs->KV kvs vs->KV (mergeK kvs more) (merged vs rs):= by
 intro more rs kvs vs r
 unfold KV at r
 induction r generalizing kvs vs with
 | nil=>intro q;exact q
 | @cons p q ps qs h t ih=>
  intro r0
  have e:KV (putK kvs p.1 p.2) (stored vs q.1 q.2):= by
   have:=r0.put p.1 h.2
   rw [<- h.1];exact this
  exact ih e
theorem lY{kx vx target iter:Expr}{ifs:List Expr}{scope:Scope}{pos:Pos}{it:Value}{D:Addr}{env:Env}(I:Nat->Shared->Prop)
  (turn:∀n s,I n s->wpAny (model prog w) A (pyNext it) (λ r s1=>match r with
   |none=>R (.ok .next) s1
   |some v=>wpAny (model prog w) A (letOwnedTupleGo target it v) (λ _ s2=>wpAny (model prog w) A (assign target env v) (λ _ s3=>
     wpAny (model prog w) A (forIn ifs true λ c r=>if r=true then do let ok<- isTrue c env (eval c env);pure (ForInStep.yield ok)else pure (ForInStep.yield r)) (λ ok s4=>
      if ok=true then wpAny (model prog w) A (eval kx env) (λ y s5=>wpAny (model prog w) A (eval vx env) (λ x s6=>
       wpAny (model prog w) A (dictSet D y x) (λ _ s7=>∃m,m<n/\I m s7) (λ _ _=>False) s6) (λ _ _=>False) s5) (λ _ _=>False) s4
      else∃m,m<n/\I m s4) (λ _ _=>False) s3) (λ _ _=>False) s2) (λ _ _=>False) s1) (λ _ _=>False) s)
  (n:Nat)(h:I n s):
  codeAny (model prog w) A (.compLoop (.DictComp kx vx [⟨target,iter,ifs,0⟩] scope pos) 0 it (.ref D) env) R s:=by refine codeAny_loop rfl I (λ n s hI=>?_) n h;show wpAny _ A ((compTurn (.DictComp kx vx [⟨target,iter,ifs,0⟩] scope pos) 0 it (.ref D) env).onRaise (λ x=>do noteFrame x env;theTreesLotGoes x)) _ _ s;refine wpAny_noted ?_;rw[compTurn_dict];refine wpAny_bind (wpAny_standAt (wpAny_bind (wpAny_mono (turn n s hI) (λ r af o=>?_) λ _ _ h'=>h'.elim)));cases r with
 |none=>exact wpAny_pure o
 |some v=>refine wpAny_bind (wpAny_mono o (λ _ ag J=>?_) λ _ _ h'=>h'.elim);refine wpAny_bind (wpAny_mono J (λ _ ah U=>wpAny_bind (wpAny_mono U (λ ok ai C=>?_) λ _ _ h'=>h'.elim)) λ _ _ h'=>h'.elim);cases ok with
  |false=>exact wpAny_pure ⟨rfl,C⟩
  |true=>exact wpAny_bind (wpAny_bind (wpAny_mono C (λ y aj aa=>wpAny_bind (wpAny_holding (wpAny_mono aa (λ x ak ab=>wpAny_bind (wpAny_standAt (wpAny_holding (wpAny_mono ab (λ _ ao ae=>wpAny_pure ⟨rfl,ae⟩) λ _ _ h'=>h'.elim)))) λ _ _ h'=>h'.elim))) λ _ _ h'=>h'.elim))
section
variable {X:Cx} {pins:List (Addr × Obj)} {σ:St} {H:Hp} {s:Shared} {a:Addr} {y v:V} {u r:Value} {A:Around} {E:Value->Shared->Prop}
theorem u9(hu:A.units<cLine)(I:Inv X pins σ H s)(g:DPut H a y v H')(ry:RelV y u)(rv:RelV v r)(h:∀s',Inv X pins σ H' s'->Q () s'):
  wpAny (model X.prog X.w) A (dictSet a u r) Q E s:=by
 rcases g with⟨kvs,k,e,U,l,eH⟩|⟨kvs,k,b,e,U,eb,l,eH⟩
 .subst U eH;obtain⟨z,hd,vs,rel,dd⟩:=dk_of I.hok e;have hz:vs.length<=sizeLine:=by rw[<- rel.length];exact z
  have hl:(putK kvs k v).length<=sizeLine:=by have:=length_putK kvs k v;omega
  refine wpAny_dictSet_pairs (kV_is ry) dd (λ h' o hs=>h _ ?_) hz;have he:∃q,h'.get? a=some q:=let⟨q,_,_,C,_⟩:=o;⟨q,C⟩;exact d_write I (by rw[e];exact True.intro) hs he (dk_new hl hd (rel.put k rv) o)
 .subst U eH;cases(show u=Value.ref b from ry);obtain⟨z,hd,xs,rel,dd⟩:=dt_of I.hok e;have hz:xs.length<=sizeLine:=by rw[<- Paired.length rel];exact z
  have hl:(putK kvs k v).length<=sizeLine:=by have:=length_putK kvs k v;omega
  refine sH (knd:=tupleKind (cm X.prog X.w)) hu (key_of I.hok eb) dd (dt_ep I.hok (.inl e)) (λ h' o de hs=>h _ ?_) hz;obtain⟨q,es,ep,C,h2,h3,h4,_,h5⟩:=o;obtain⟨q2,aa,J,h6⟩:=de;rw[C]at J;cases J;rw[h3]at h6;cases h6;refine d_write I (by rw[e];exact True.intro) hs ⟨q,C⟩ ⟨hl,hd,_,(rel.put k eb rv).keeps λ c ys ec=>?_,q,es,_,C,h2,h3,h4,h5,rfl⟩;rw[aZ (IE ec e (λ z=>nomatch z))];omega
end
noncomputable def rm(wi:TI)(own:Nat)(g:TG)(tt:TT)(tk tv:TE):TE:= λ σ H Q=>wi σ H λ J H1=>∀l,H1 l=none->∃o0:HO,(o0= .dK []\/o0= .dT [])/\∃W:Nat->Nat->Hp->Prop,(∃m,W 0 m (upd H1 l o0))/\∀i m H,W i m H->
 ((J.stop i H/\Q (.ref l) H)\/(J.go i H/\∀x H',J.yld i H x H'->g x (σ++List.replicate own none) H' λ o H2=>o.take σ.length=σ/\tt o H2 λ b I=>
  if b=true then tk o I λ y H4=>tv o H4 λ v H5=>∃U,DPut H5 l y v U/\∃C,C<m/\W (i+1) C U
  else∃C,C<m/\W (i+1) C I))
section
variable {X:Cx} {kx vx tg iter:Expr} {ifs:List Expr} {scope:Scope} {pos pos':Pos} {N' own:List Str} {wi:TI} {g:TG} {tt:TT} {tk tv:TE}
theorem zY {cal:Cx->Prop} (hc:∀s H fp pins,cal (blk X N' own scope s H fp pins)) (hi:G9 cal X tg iter wi) (hk:scope.kind=.function) (hS:dh N' own X.env.scope scope=true) (hM:di X.N N' scope=true)
  (hg:∀s H fp pins,PG (blk X N' own scope s H fp pins) tg g) (ht:∀s H fp pins,sG (blk X N' own scope s H fp pins) ifs tt) (he:∀s H fp pins,PE (blk X N' own scope s H fp pins) kx tk) (hv:∀s H fp pins,PE (blk X N' own scope s H fp pins) vx tv) (hu:X.A.units < cLine)
  (hs:∀x,foldedSetIterable iter X.env x=pure x) {use:Option (Value->Sem Unit)} {Q0:Value->Shared->Prop} {pins:List (Addr × Obj)} {s:Shared} {σ:St} {H:Hp} {Q:VK}
  (I:Inv X pins σ H s) (h:rm wi own.length g tt tk tv σ H Q)
  (fin:∀(l:Addr) (H':Hp) (s':Shared) (C:Addr) (m:Str->Option Value),Inv X pins σ H' s' -> Q (.ref l) H' -> s'.heap.Ns C m->H' C=none->C ≠ X.env.locals->X.s₀.heap.objs.size ≤ C->(∀x c,X.env.cells.lookup x=some c->c ≠ C)->(∀p ∈ X.pn ++ pins,p.1 ≠ C) ->
   compPost (model X.prog X.w) X.A X.xe use Q0 (.ref l) C (.ok .next) s') :
  wpAny (model X.prog X.w) X.A (comprehension (.DictComp kx vx [⟨tg,iter,ifs,0⟩] scope pos) scope X.env pos' newDict false (eval iter X.env) use) Q0 X.xe s:= by
 have S:=mr hS
 have Mk:=l8 hM
 refine wpAny_comprehension_free rfl hs (gS fun n hn=>I.ok.has n (S.free n hn)) hk S.loc (cp (hi pins s σ H _ I h) fun xv s1 h1=>cp h1 fun itv s2 h2=>?_)
 obtain ⟨it,fp,tn,J,H2,e,I2,T,st2,f2,q2⟩:=h2
 subst e
 refine wpAny_newObj_type ?_
 have hl2:H2 s2.heap.objs.size=none:=I2.fresh
 obtain ⟨o0,ho0,W,⟨m0,w0⟩,turn⟩:=q2 s2.heap.objs.size hl2
 have I3:Inv X pins σ (upd H2 s2.heap.objs.size o0) { s2 with heap:=s2.heap.push { cls:=.type "dict",data:=.dict #[] } }:= by
  rcases ho0 with rfl | rfl
  .exact I2.laid (t':=s2.toks) (fun _ _ q=>Heap.get?_push_of_some _ q) (Nat.le_refl _) (dk_empty s2.heap I2.big)
  .exact I2.laid (t':=s2.toks) (fun _ _ q=>Heap.get?_push_of_some _ q) (Nat.le_refl _) (dt_empty s2.heap I2.big)
 generalize hl:s2.heap.objs.size=l at *
 have ob2:∀b ∈ fp,b < l:=fun b hb=>by
  obtain ⟨o,e,_⟩:=T.obj _ _ st2 b hb
  rw [<- hl];exact Heap.lt_size e
 have st3:tn 0 (s2.heap.push { cls:=.type "dict",data:=.dict #[] }):=T.keep _ _ _ st2 fun b _ o e=>Heap.get?_push_of_some _ e
 have sz3:l < (s2.heap.push { cls:=.type "dict",data:=.dict #[] }).objs.size:=by rw [Heap.size_push,hl];exact Nat.lt_succ_self _
 have f3:∀b ∈ fp,gh X pins (upd H2 l o0) b:=fun b hb=>⟨by rw [aZ (Nat.ne_of_lt (ob2 b hb))];exact (f2 b hb).1,(f2 b hb).2⟩
 generalize hs3:({ s2 with heap:=s2.heap.push { cls:=.type "dict",data:=.dict #[] } }:Shared)=s3 at I3
 have hh3:s3.heap=s2.heap.push { cls:=.type "dict",data:=.dict #[] }:=by rw [<- hs3]
 rw [<- hh3] at st3 sz3
 have ob3:∀b ∈ fp,b < s3.heap.objs.size:=fun b hb=>Nat.lt_trans (ob2 b hb) sz3
 generalize upd H2 l o0=H3 at *
 show wpAny _ _ (newFunctionEnv scope X.env.globals (gX X.env.cells scope.names []) [] X.env.qual none .none (some X.env)) _ _ _
 have goal:wpAny (model X.prog X.w) X.A (newFunctionEnv scope X.env.globals (gX X.env.cells scope.names []) [] X.env.qual none .none (some X.env))
   (fun cenv s₄=>codeAny (model X.prog X.w) X.A (.compStart (.DictComp kx vx [⟨tg,iter,ifs,0⟩] scope pos) 0 (.ref it) (.ref l) { cenv with scope:=relabel scope X.env }) (compPost (model X.prog X.w) X.A X.xe use Q0 (.ref l) cenv.locals) s₄) X.xe s3:= by
  refine jv ?_
  have IY:=I3.blk f3 ob3 hk S Mk
  have keep:=@Inv.blkKeep s3 scope
  have st4:tn 0 (pushCells (s3.heap.push { cls:=.type "dict",data:=.dict #[] }) scope.names):=T.keep _ _ _ st3 fun b _ o e=>keep b o e
  have hcells:=iY I3 S
  have stat:∀{H':Hp},(∀b ∈ fp,H' b=none)->∀b ∈ fp,gh (blk X N' own scope s3 H3 fp pins) [] H' b:=fun hn b hb=>by
   refine ⟨hn b hb,Nat.ne_of_lt (ob3 b hb),fun z=>?_,.inl hb,fun x c h=>?_,fun p hp=>?_⟩
   .rcases List.mem_cons.mp (I3.stkSub b z) with z | z
    .exact (f3 b hb).2.1 z
    .exact (f3 b hb).2.2.1 z
   .rcases hcells x c h with ⟨_,_,a3,_⟩ | ⟨a1,_,_⟩
    .intro z;subst z;exact absurd (ob3 _ hb) (Nat.not_lt.mpr (Nat.le_of_succ_le a3))
    .exact (f3 b hb).2.2.2.2.1 x c a1
   .have hp':p ∈ X.pn ++ pins:= by
     rcases List.mem_append.mp hp with z | z
     .exact z
     .exact nomatch z
    exact (f3 b hb).2.2.2.2.2 p hp'
  have loop:codeAny (model X.prog X.w) X.A (.compLoop (.DictComp kx vx [⟨tg,iter,ifs,0⟩] scope pos) 0 (.ref it) (.ref l) (blk X N' own scope s3 H3 fp pins).env)
    (compPost (model X.prog X.w) X.A X.xe use Q0 (.ref l) s3.heap.objs.size) { s3 with heap:=pushCells (s3.heap.push { cls:=.type "dict",data:=.dict #[] }) scope.names }:= by
   refine lY (fun n s'=>∃i σ' H',Inv (blk X N' own scope s3 H3 fp pins) [] σ' H' s' ∧ σ'.take σ.length=σ∧tn i s'.heap∧(∀b ∈ fp,H' b=none)∧W i n H') ?_ m0
    ⟨0,_,H3,IY,by rw [List.take_left'] <;> rfl,st4,fun b hb=>(f3 b hb).1,w0⟩
   rintro n s5 ⟨i,σ5,H5,I5,e5,st5,fr5,w5⟩
   rcases turn i n H5 w5 with ⟨stop,q⟩ | ⟨go,step⟩
   .refine wpAny_mono (T.done (blk X N' own scope s3 H3 fp pins) rfl rfl rfl (hc _ _ _ _) i [] s5 σ5 H5 (fun _ _=>False) I5 (stat fr5) st5 stop) (fun r s6 hr=>?_) fun _ _ z=>z
    obtain ⟨rfl,I6⟩:=hr
    obtain ⟨m,hn,_⟩:=id I6.loc
    refine fin l H5 s6 _ m (I3.unblk f3 I6) q hn I6.free (Nat.ne_of_gt I3.lt) I3.sz (fun x c e z=>?_) fun p hp z=>?_
    .obtain ⟨v,qc⟩:=I3.cell x c e
     exact absurd qc.lt (by rw [z];exact Nat.lt_irrefl _)
    .exact absurd (Heap.lt_size (I3.pin p hp).1) (by rw [z];exact Nat.lt_irrefl _)
   .have lenσ:σ5.length=(σ ++ List.replicate own.length (none:Option V)).length:= by
     rw [I5.len,List.length_append,List.length_replicate,I.len]
     show (N' ++ own).length=_
     rw [List.length_append,Mk.len]
    have I5':Inv (blk X N' own scope s3 H3 fp pins) [] (σ ++ List.replicate own.length none) H5 s5:=I5.weak lenσ.symm fun j v e=>by
     have hj:j < σ.length:= by
      by_cases hj:j < σ.length
      .exact hj
      .rw [List.getElem?_append_right (by omega),List.getElem?_replicate] at e
       split at e <;> cases e
     rw [List.getElem?_append_left hj] at e
     rw [<- e5,List.getElem?_take_of_lt hj] at e
     exact e
    refine wpAny_mono (T.item (blk X N' own scope s3 H3 fp pins) rfl rfl rfl (hc _ _ _ _) i [] s5 _ H5 (fun _ _=>False) I5' (stat fr5) st5 go) (fun r s6 hr=>?_) fun _ _ z=>z
    obtain ⟨u,rfl,h6⟩:=hr
    refine cp h6 fun _ s7 ⟨x,H7,I7,r7,y7,st7,fr7⟩=>?_
    have I7':=I7.pinned (stat fr7) (T.obj _ _ st7)
    refine cp (hg s3 H3 fp pins _ s7 _ H7 x u _ I7' r7 (step x H7 y7)) fun _ s8 ⟨σ8,H8,I8,e8,q8⟩=>?_
    refine cp (ht s3 H3 fp pins _ s8 σ8 H8 _ I8 q8) fun b s9 ⟨H9,I9,q9⟩=>?_
    have again:∀{Ha:Hp} {sa:Shared} {m':Nat},Inv (blk X N' own scope s3 H3 fp pins) ([] ++ kD fp s7.heap) σ8 Ha sa->m' < n->W (i + 1) m' Ha ->
      ∃m,m < n∧∃i σ' H',Inv (blk X N' own scope s3 H3 fp pins) [] σ' H' sa∧σ'.take σ.length=σ∧tn i sa.heap∧(∀b ∈ fp,H' b=none)∧W i m H':=fun {Ha sa m'} Ia hm wa=>by
     refine ⟨m',hm,i + 1,σ8,Ha,Ia.unpinned,e8,T.keep _ _ _ st7 fun b hb o e=>(Ia.pin (b,o) (List.mem_append_right _ (List.mem_append_right _ (dP hb e)))).1,fun b hb=>?_,wa⟩
     obtain ⟨o,e,d⟩:=T.obj _ _ st7 b hb
     exact (Ia.pin (b,o) (List.mem_append_right _ (List.mem_append_right _ (dP hb e)))).2.1
    cases b with
    | false=>
     rw [if_neg Bool.false_ne_true] at q9 ⊢
     obtain ⟨m',hm,wa⟩:=q9
     exact again I9 hm wa
    | true=>
     rw [if_pos rfl] at q9 ⊢
     refine cp (he s3 H3 fp pins _ s9 σ8 H9 _ I9 q9) fun y s10 ⟨ky,H10,I10,rk,q10⟩=>?_
     refine cp (hv s3 H3 fp pins _ s10 σ8 H10 _ I10 q10) fun x2 s11 ⟨v,H11,I11,rv,H12,dp,m',hm,wa⟩=>?_
     exact u9 (X:=blk X N' own scope s3 H3 fp pins) hu I11 dp rk rv fun s12 I12=>again I12 hm wa
  exact codeAny_compStart_dict loop (T.self _ 0 _ _ _ st4 loop)
 omega
theorem zA(J:PI X tg iter wi)(U:∀s H fp pins,PG (blk X N' own scope s H fp pins) tg g)(ht:∀s H fp pins,sG (blk X N' own scope s H fp pins) ifs tt)(he:∀s H fp pins,PE (blk X N' own scope s H fp pins) kx tk)(hv:∀s H fp pins,PE (blk X N' own scope s H fp pins) vx tv)(hu:X.A.units<cLine)
  (hS:dh N' own X.env.scope scope=true:=by rfl)(hM:di X.N N' scope=true:=by rfl)(hk:scope.kind= .function:=by rfl)(hc:X.calm=true:=by rfl)(hs:∀x,foldedSetIterable iter X.env x=pure x:=by intro _;rfl):
  PE X (.DictComp kx vx [⟨tg,iter,ifs,0⟩] scope pos) (rm wi own.length g tt tk tv):=by
 intro pins s σ H Q I h;have ev:eval (.DictComp kx vx [⟨tg,iter,ifs,0⟩] scope pos) X.env=comprehension (.DictComp kx vx [⟨tg,iter,ifs,0⟩] scope pos) scope X.env (firstIterPos [⟨tg,iter,ifs,0⟩] pos) newDict (firstAsync [⟨tg,iter,ifs,0⟩]) (firstIter [⟨tg,iter,ifs,0⟩] X.env):=by rw[eval]
 rw[ev];refine zY (use:=none) (cal:= λ X=>X.calm=true) (λ _ _ _ _=>hc) J.g hk hS hM U ht he hv hu hs I h λ l H' s' C m I' q hn h1 h2 h3 h4 h5=>?_;refine⟨m,hn,λ h' sb=>⟨.ref l,H',?_,rfl,q⟩⟩;exact I'.turned (t':=s'.toks) (λ b o hb e=>(sb.2 b hb).trans e) h1 h2 (.inr h3) h4 h5
end
end L2
namespace Jt
open PySem L2 PySem.Spec PyProof.Rows
theorem Sl.unhideO(s:Sl { c with Z:=upd c.Z p o } J S σ T H)(I:c.Z p=none)(hR:∀Hh:Hp,Hh p=some o->R Hh d (.ref p)):Sl c J (d::S) σ (.ref p::T) H:=by
 have U:H p=some o:=s.zz p _ bf;have npow:=s.noOw;have zc:∀a u,c.Z a=some u->upd c.Z p o a=some u:= λ a u h=>by rw[aZ λ q=>by rw[q,I]at h;cases h];exact h
 have m:∀b u,fg { c with Z:=upd c.Z p o } J σ H b=some u->fg c J σ H b=some u:=bq (λ a u e z=>by
  rcases z with⟨w,z⟩|z
  .exact .inl ⟨w,zc a w z⟩
  .exact .inr z) λ a u ha e=>e;refine⟨s.len,λ i d e=>?_,λ i b xs e=>?_,s.ne,.cons (hR _ (dG.mpr ⟨λ z=>?_,U⟩)) (s.st.mono m),s.keep,s.bb,λ a u hz=>s.zk a u (zc a u hz),λ i ks e=>?_,s.nd⟩;. obtain⟨v,e,r⟩:=s.pu i d e;exact⟨v,e,r.mono m⟩
 .obtain⟨a,aa,e,h1,h2,h3,h4,h5⟩:=s.ow i b xs e;refine⟨a,aa,e,h1,h2.mono m,h3,h4,?_⟩;have C:upd c.Z p o a=none:=h5;by_cases q:a=p;. rw[q];exact I
  .rwa [aZ q]at C
 .rcases z with⟨u,z⟩|z
  .rw[I]at z;cases z
  .exact npow z
 .obtain⟨a,e,h1,h3,h4,h5⟩:=s.od i ks e;refine⟨a,e,h1,h3,h4,?_⟩;have C:upd c.Z p o a=none:=h5;by_cases q:a=p;. rw[q];exact I
  .rwa [aZ q]at C
section
variable {X:Cx}
noncomputable def Ir:R2:= λ x y H Q=>∃a v,x= .ref a/\DGet H a y (some v)/\Q v H
theorem AU(U:X.A.units+1<cLine):t7 X Ir:=by
 intro value slice pins s σ H x y v u Q I rx ry h hs;obtain⟨a,w,rfl,g,q⟩:=h;cases rx;have hT:=dict_typeIs I g;have h2:wpAny (model X.prog X.w) X.A (getItem (.ref a) u) (EP X pins σ Q) X.xe s:=d_getItem U I g ry λ w' s3 I3 J=>⟨w,H,I3,J,q⟩;refine wpAny_bind ?_;refine wpAny_bind (wpAny_specialOf hT PySem.F.slot_dict_getitem.lookup ?_);have fin:wpAny (model X.prog X.w) X.A (subscripted slice false (.ref a) u) (λ r o=>wpAny (model X.prog X.w) X.A (letTemporaryGo value (.ref a) r >>=λ _=>pure r) (EP X pins σ Q) X.xe o) X.xe s:=by rw[hs];exact wpAny_operating (wpAny_mono h2 (λ r o C=>wpAny_bind (wpAny_letTemporaryGo (wpAny_pure C))) λ _ _ x=>x)
 exact wpAny_pure (wpAny_bind fin)
theorem GK(h:t7 X r)(h':t7 X o):t7 X (λ x y H Q=>r x y H Q\/o x y H Q):= λ value slice pins s σ H x y v u Q I rx ry q hs=>q.elim (λ q=>h value slice pins s σ H x y v u Q I rx ry q hs) λ q=>h' value slice pins s σ H x y v u Q I rx ry q hs
end
noncomputable def iG(kvs:List (Int×Int))(k:Int):Option Int:=(kvs.find? λ p=>decide (p.1=k)).map (·.2)
noncomputable def tE(kvs:List ((Int×Int)×Int))(a b:Int):Option Int:=(kvs.find? λ p=>decide (p.1=(a,b))).map (·.2)
theorem zK(k:Int):∀kvs:List (Int×Int),valV (kvs.map λ p=>((.inl p.1,.int p.2):Key×V)) (.inl k)=(iG kvs k).map V.int
 |[]=>rfl
 |(x,y)::r=>by
  have o:=zK k r;unfold valV iG at*;by_cases q:x=k;. simp[q]
  simp_all
theorem zU(a b:Int):∀kvs:List ((Int×Int)×Int),valV (kvs.map λ p=>(([.inl p.1.1,.inl p.1.2],.int p.2):List Key×V)) [.inl a,.inl b]=(tE kvs a b).map V.int
 |[]=>rfl
 |((x,o),y)::r=>by have C:=zU a b r;unfold valV tE at*;grind
noncomputable def pS:D->D->Option D
 | .dic kvs,.int i=>(iG kvs i).map .int
 | .dip kvs,.tup [.int a,.int b]=>(tE kvs a b).map .int
 |x,y=>jk x y
section
variable {X:Cx} {a b:Expr} {fa fb:M D} {pos:Pos}
theorem A6{K:PySem.W.Frag}:qR (λ x y H Q=>IU K x y H Q\/Ir x y H Q) pS:= λ c I S σ T H x y v u d Q s e k=>by
 unfold pS at e;split at e;. rename_i kvs i;cases q:iG kvs i with
  |none=>rw[q]at e;cases e
  |some w=>rw[q]at e;cases e;obtain⟨p,rfl,C⟩:=s.st.tail.head.dic;have J:=s.st.head.int;subst J;refine .inr ⟨p,.int w,rfl,?_,k _ _ (s.stk (.cons .mkI s.st.tail.tail))⟩;have g:=DGet.k (k:= .inl i) (br _ _ C);rw[zK,q]at g;exact g
 .rename_i kvs x y;cases q:tE kvs x y with
  |none=>rw[q]at e;cases e
  |some w=>rw[q]at e;cases e;obtain⟨p,rfl,C⟩:=s.st.tail.head.dip;obtain⟨b,vs,rfl,U,o⟩:=s.st.head.tup;obtain⟨v1,r1,rfl,g1,o⟩:=o.inv;obtain⟨v2,r2,rfl,g2,o⟩:=o.inv;have e3:=o.inv0;subst e3;cases g1.int;cases g2.int;refine .inr ⟨p,.int w,rfl,?_,k _ _ (s.stk (.cons .mkI s.st.tail.tail))⟩;have g:=DGet.t (k:=[.inl x,.inl y]) (br _ _ C) (br _ _ U);rw[zU,q]at g;exact g
 .exact .inl (xj c I S σ T H x y v u d Q s e k)
theorem fO(o:bR k X.A)(C:DE X a fa)(I:DE X b fb)(hs:iB b:=by exact λ _ _=>rfl):DE X (.Subscript a b pos) (m2 pS fa fb):=D9 (GK n_ (AU (by have:=i3 o;omega))) A6 C I hs
end
noncomputable def il(kvs:List (Int×Int))(k v:Int):List (Int×Int):=if(kvs.any λ p=>decide (p.1=k))=true then kvs.map (λ p=>if p.1=k then(p.1,v)else p)else kvs++[(k,v)]
theorem zF(kvs:List (Int×Int))(k v:Int):putK (kvs.map λ p=>((.inl p.1,.int p.2):Key×V)) (.inl k) (.int v)=(il kvs k v).map λ p=>(.inl p.1,.int p.2):=by
 unfold putK il;have e:((kvs.map λ p=>((.inl p.1,.int p.2):Key×V)).any λ o=>decide (o.1= .inl k))=kvs.any λ p=>decide (p.1=k):=by rw[List.any_map];refine List.any_congr rfl λ p=>?_;simp
 rw[e];split
 .rw[List.map_map,List.map_map];refine List.map_congr_left λ p _=>?_;by_cases q:p.1=k;. simp[q]
  .simp[q]
 simp
theorem zf(kvs:List (Int×Int))(k v:Int):(il kvs k v).length<=kvs.length+1:=by
 unfold il;split;. simp
 simp
noncomputable def p9(gt:D->M Unit)(tt:M Bool)(tk o:M D)(d:D):M (Option (Int×Int)):=do
 gt d
 let b<- tt
 if b=true then do
  let k<- tk
  let v<- o
  match k,v with
  | .int i,.int j=>pure (some (i,j))
  |_,_=>lift none
 else pure none
noncomputable def BU(acc:List (Int×Int)):Option (Int×Int)->List (Int×Int)
 |none=>acc
 |some (k,v)=>il acc k v
noncomputable def fJ(own:Nat)(turn:D->M (Option (Int×Int)))(fin:DS->Bool):List (DS->Option D)->List (Int×Int)->M (List (Int×Int))
 |[],acc=> λ C=>if fin C=true then some (acc,C)else none
 |a::r,acc=> λ C=>match a C with
  |none=>none
  |some d=>match turn d (C++List.replicate own .un)with
   |none=>none
   |some (o,I)=>fJ own turn fin r (BU acc o) (I.take C.length)
noncomputable def nq(lo own:Nat)(o:M jB)(turn:D->M (Option (Int×Int))):M D:=do
 jl lo
 let it<- o
 let _<- lift (few it.1.length)
 let kvs<- fJ own turn it.2 it.1 []
 pure (.dic kvs)
section
variable {fi:M jB} {gt:D->M Unit} {tt:M Bool} {tk tv:M D}
theorem vT{lo own:Nat}:∀σ H Q,tM (nq lo own fi (p9 gt tt tk tv)) σ H Q->rm (Jy fi) own (Jq lo gt) (vR tt) (tM tk) (tM tv) σ H Q:= λ σ H Q ⟨c,af,S,T,dd,aA,s0,e,k⟩=>by
 obtain⟨u,aq,e0,e⟩:=bind_some e;have ab:σ.length=lo/\af=aq:=by
  unfold jl at e0;split at e0;. cases e0;exact⟨by rw[<- s0.len];assumption,rfl⟩
  .cases e0
 obtain⟨ab,rfl⟩:=ab;obtain⟨it,ag,e1,e⟩:=bind_some e;obtain⟨u',aB,e2,e⟩:=bind_some e;obtain⟨e3,rfl⟩:=ba e2;have ah:=(fV e3).2;obtain⟨kvs,ai,e4,e⟩:=bind_some e;obtain⟨rfl,rfl⟩:=aV e;refine⟨c,af,S,T,it,ag,s0,e1,λ J Sx Tx H1 l hJ s1 q hq=>?_⟩;obtain⟨items,fin⟩:=it;dsimp only at e4 ah;obtain⟨f1,f2,f3⟩:=s1.fresh hq;refine⟨.dK [],.inl rfl,λ i m H=>∃C acc,m=items.length-i/\i<=items.length/\acc.length<=i/\Sl { c with Z:=upd c.Z q (g9 acc) } C (Sx++S) σ (Tx++T) H/\
  fJ own (p9 gt tt tk tv) fin (items.drop i) acc C=some (kvs,ai),⟨_,ag,[],rfl,Nat.zero_le _,Nat.le_refl _,s1.hide hq,e4⟩,?_⟩;rintro i m H ⟨C,acc,rfl,hi,li,s,em⟩;by_cases U:i<items.length;. rw[List.drop_eq_getElem_cons U]at em;unfold fJ at em;cases ea:items[i] C with
  |none=>rw[ea]at em;cases em
  |some d=>rw[ea]at em;dsimp only at em;cases I:p9 gt tt tk tv d (C++List.replicate own .un)with
   |none=>rw[I]at em;cases em
   |some p=>
    obtain⟨o,aC⟩:=p;rw[I]at em;obtain⟨u1,aj,ar,I⟩:=bind_some I;obtain⟨b,ae,au,I⟩:=bind_some I;obtain⟨go,yld⟩:=(hJ { c with Z:=upd c.Z q (g9 acc) } C S T H i s).1 items[i] d (List.getElem?_eq_getElem U) ea;refine .inr ⟨go,λ x H' y=>?_⟩;refine⟨{ c with Z:=upd c.Z q (g9 acc) },C++List.replicate own .un,Sx++S,Tx++T,d,aj,(yld x H' y).ext own,ar,λ aw H2 hn s2=>?_⟩;have ht:aw.take σ.length=σ:=by rw[hn _ (Nat.le_of_eq ab)];exact List.take_left' rfl
    refine⟨ht,{ c with Z:=upd c.Z q (g9 acc) },aj,Sx++S,Tx++T,b,ae,s2,au,λ H3 s3=>?_⟩;have aa:C.length=σ.length:=s.len;cases b with
    |true=>
     obtain⟨kd,ak,ek,I⟩:=bind_some I;obtain⟨vd,ao,ev,I⟩:=bind_some I;split at I;. rename_i ki vi _;obtain⟨rfl,rfl⟩:=aV I;refine⟨{ c with Z:=upd c.Z q (g9 acc) },ae,Sx++S,Tx++T,_,ak,s3,ek,λ v1 H4 s4=>?_⟩;have ax:=s4.st.head.int;subst ax;refine⟨{ c with Z:=upd c.Z q (g9 acc) },ak,_,_,_,ao,s4,ev,λ v2 H5 s5=>?_⟩;have ay:=s5.st.head.int;subst ay;have az:H5 q=some (g9 acc):=s5.zz q _ bf;have pt:=DPut.k (k:= .inl ki) (v:= .int vi) az (by rw[List.length_map];omega);rw[zF]at pt;refine⟨_,pt,items.length-(i+1),by omega,ao.take C.length,il acc ki vi,rfl,U,by have:=zf acc ki vi;omega,?_,em⟩;have s6:=s5.pop.pop.cut σ.length;rw[ht,<- aa]at s6;exact Sl.hideSet (g9 (il acc ki vi)) s6 f2 f3
     .cases I
    |false=>obtain⟨rfl,rfl⟩:=aV I;refine⟨items.length-(i+1),by omega,ae.take C.length,acc,rfl,U,by omega,?_,em⟩;have s5:=s3.cut σ.length;rw[ht,<- aa]at s5;exact s5
 .have ei:i=items.length:=by omega
  subst ei;rw[List.drop_length]at em;unfold fJ at em;by_cases hf:fin C=true
  .rw[if_pos hf]at em;obtain⟨rfl,rfl⟩:acc=kvs/\C=ai:=by cases em;exact⟨rfl,rfl⟩
   refine .inl ⟨(hJ { c with Z:=upd c.Z q (g9 acc) } _ S T H _ s).2 rfl hf,k _ _ ?_⟩;have s2:=s.unhideO (d:= .dic acc) f1 λ Hh h=> .mkDic h;exact s2.stk (.cons s2.st.head (s2.st.tail.right l))
  .rw[if_neg hf]at em;cases em
variable {X:Cx} {kx vx tg iter:Expr} {N' own:List Str} {scope:Scope} {ifs:List Expr} {lo:Nat} {pos:Pos}
theorem wD(o:bR k X.A)(hi:DC X tg iter fi)(hg:∀s H fp pins,DG (blk X N' own scope s H fp pins) lo tg gt)(ht:∀s H fp pins,sG (blk X N' own scope s H fp pins) ifs (vR tt))(he:∀s H fp pins,DE (blk X N' own scope s H fp pins) kx tk)(C:∀s H fp pins,DE (blk X N' own scope s H fp pins) vx tv)
  (hS:dh N' own X.env.scope scope=true:=by rfl)(hM:di X.N N' scope=true:=by rfl)(hk:scope.kind= .function:=by rfl)(hc:X.calm=true:=by rfl)(hs:∀x,foldedSetIterable iter X.env x=pure x:=by intro _;rfl):
  DE X (.DictComp kx vx [⟨tg,iter,ifs,0⟩] scope pos) (nq lo own.length fi (p9 gt tt tk tv)):=cB (zA hi hg ht he C (by have:=i3 o;omega) hS hM hk hc hs) vT
end
section
variable {X:Cx} {a b:Expr} {fs:M (List D)} {p pos:Pos}
noncomputable def Jf(ta:TA):TE:= λ σ H Q=>ta σ H λ vs H1=>∃i j:Int,vs=[.int i,.int j]/\∀q,H1 q=none->Q (.ref q) (upd H1 q (.rng i j))
theorem vI(U:Gl X "range")(hm:X.mg "range"=none)(ha:PA X [a,b] ta)(hs:starEach [a,b] X.env=[(false,eval a X.env),(false,eval b X.env)]:=by rfl)(o:starEach [b] X.env=[(false,eval b X.env)]:=by rfl):PE X (.Call (.Name "range" p) [a,b] [] pos) (Jf ta):=by intro pins s σ H Q I h;refine PyProof.Rows.Call_ (gf I U hm (show bootBuiltins "range"=some (.type "range")by decide+kernel) (PyProof.Rows.callWith_type1 (cp (ha pos pins s σ H _ I h) λ us s1 ⟨vs,H1,J,r1,q1⟩=>?_) (by rw[hs,o]) (by rw[o];rfl)));obtain⟨i,j,e,q⟩:=q1;subst e;cases r1 with
 |cons r C=>cases C with
  |cons r' C=>cases C;obtain⟨t,rfl⟩:=r;obtain⟨t',rfl⟩:=r';refine call_range_2 ⟨.ref s1.heap.objs.size,upd H1 s1.heap.objs.size (.rng i j),J.laid (λ b u e=>Heap.get?_push_of_some _ e) (Nat.le_refl _) ?_,rfl,q _ J.fresh⟩;exact⟨_,_,_,Heap.get?_push_size _ rfl⟩
theorem qG(J:X.calm=true):cT X (.type "list") (λ xs H Q=>∃q i j,xs=[.ref q]/\H q=some (.rng i j)/\0<=i/\i<100000/\j<100000/\ -(2^62)<=j/\∀l,H l=none->Q (.ref l) (upd H l (.lst ((List.range (j-i).toNat).map λ(k:Nat)=>V.int (i+k))))):=by
 intro pins s σ H xs us Q I r h;obtain⟨q,i,j,rfl,U,aa,ab,hj,C,k⟩:=h;obtain⟨u,rfl,rx⟩:=r.one;cases rx;obtain⟨t,u',v,hr⟩:=I.hok q _ U;refine call_list_range (n:=(j-i).toNat) (I.ok.hd J) hr (small_one (by omega) (by omega) C (by omega)) (by rw[rangeSize_one];split <;> omega) (by omega) λ h' tk o c' kp e hi=>?_;refine⟨.ref s.heap.objs.size,_,I.laid (t':=tk) kp (Nat.le_refl _) (show cu X.prog X.w _ h' _ (.lst _)from⟨?_,o.toList,c',kC hi,by simpa using e⟩),rfl,k _ I.fresh⟩;have:100000<sizeLine:=by decide
 grind
noncomputable def pN:List D->Option (List D)
 |[.int i,.int j]=>if 0<=i/\i<100000/\j<100000/\ -(2^62)<=j then some (bZ i (j-i).toNat)else none
 |_=>none
theorem u4{p2 C:Pos}(J:X.mg "list"=none)(U:X.mg "range"=none)(ha:DA X [a,b] fs)(aa:Gl X "list":=by rfl)(ab:Gl X "range":=by rfl)(hc:X.calm=true:=by rfl)(hs:starEach [a,b] X.env=[(false,eval a X.env),(false,eval b X.env)]:=by rfl)(ae:starEach [b] X.env=[(false,eval b X.env)]:=by rfl):
  DF X (.Call (.Name "list" p) [.Call (.Name "range" p2) [a,b] [] C] [] pos) (mC pN fs):=
 cB (eC (qG hc) aa J (by decide+kernel) (bh (vI ab U ha hs ae) cb) (by decide) (by decide) rfl rfl) λ σ H Q ⟨c,δ,S,T,d,ag,s,e,k⟩=>by
  obtain ⟨ds,af,e1,e⟩:=bind_some e;obtain ⟨o,rfl⟩:=ba e;refine ⟨c,δ,S,T,ds,af,s,e1,λ vs H1 l s1=>?_⟩;unfold pN at o;split at o
  .rename_i i j;split at o
   .rename_i I;cases o;obtain ⟨v,u,rfl,r1,r2⟩:=Jj (s1.st.left l);cases r1.int;cases r2.int;refine ⟨i,j,rfl,λ q hq=>⟨q,i,j,rfl,bf,I.1,I.2.1,I.2.2.1,I.2.2.2,λ m hm=>?_⟩⟩;have s2:=(s1.drop l).grow (dt hq (.rng i j));obtain ⟨f1,f2,f3⟩:=s2.fresh hm;refine k m _ _ (mU (H:=H)).length ((s2.hide hm).stk ?_) f1 f2 f3;exact mU.append (s2.hide hm).st
   .cases o
  .cases o
end
section
variable {X:Cx} {a b:Expr} {fs:M (List D)} {pos:Pos}
noncomputable def FI(i j:Nat)(fs:M (List D)):M Fl:=do
 let ds<- fs
 match ds with
 |[x,y]=>do
  hV i x
  hV j y
  pure .nx
 |_=>lift none
theorem EN(i j:Nat){x y:Str}{px py pt:Pos}{kt k2 o}(hN:X.N.Nodup)(ha:DA X [a,b] fs)(hw:swappedStores [.Tuple [.Name x px,.Name y py] kt pt] (.Tuple [a,b] k2 o) X.env=pure (some [x,y]):=by rfl)(hi:X.N[i]?=some x:=by rfl)(hj:X.N[j]?=some y:=by rfl)(C:i≠j:=by decide)
  (hx:X.env.scope.names.lookup x=some .local:=by rfl)(hy:X.env.scope.names.lookup y=some .local:=by rfl)(hc:X.calm=true:=by rfl)
  (hs:swapsWithSole [.Tuple [.Name x px,.Name y py] kt pt] (.Tuple [a,b] k2 o) pos.line X.env=pure false:=by rfl):
  lQ X (.Assign [.Tuple [.Name x px,.Name y py] kt pt] (.Tuple [a,b] k2 o) pos) (FI i j fs):=iq (FF hc hN hi hj C hx hy ha hw hs) λ E σ H ⟨c,δ,S,T,fl,aa,s,e,k⟩=>by
 obtain⟨ds,I,e1,e⟩:=bind_some e;refine⟨c,δ,S,T,ds,I,s,e1,λ vs H' l s'=>?_⟩;split at e;. obtain⟨u,ab,e2,e⟩:=bind_some e;obtain⟨u',ae,e3,e⟩:=bind_some e;obtain⟨rfl,rfl⟩:=aV e;obtain⟨J,rfl⟩:=ff e2;obtain⟨U,rfl⟩:=ff e3;obtain⟨v,w,rfl,r1,r2⟩:=Jj (s'.st.left l);exact⟨v,w,rfl,k _ _ ((Sl.setPu s' J).setPu U)⟩
 .cases e
end
theorem wt:typeLookup (.type "list") "keys" = pure none:=by rw [typeLookup_type,builtinLookup_eq_fast];kernel_rfl
section
variable {prog:Program} {w:World} {A:Around} {E:Value->Shared->Prop} {s:Shared}
theorem vD {a:Addr} {xs:Array Value} {k:Nat} {sl:Array (Option Value)} {Q:Option Value->Shared->Prop} (hx:s.heap.get? a=some { cls:=.type "list",dict:=none,data:=.seq xs k,slots:=sl }) (hA:A.handled=none)
  (h:∀h' tk,(∀b ob,s.heap.get? b=some ob->h'.get? b=some ob)->Q none { s with heap:=h',toks:=tk }) :
  wpAny (model prog w) A (getAttr? (.ref a) "keys") Q E s:= by
 obtain ⟨hp,g,d,tk,os⟩:=s
 have hT:∀tk',(⟨hp,g,d,tk',os⟩:Shared).TypeIs (.ref a) "list":=fun _=>⟨_,hx,rfl⟩
 have f1:=sub_AttributeError
 have f3:=PySem.F.slot_list_getattribute.lookup
 have f4:=PySem.F.slot_list_getattribute.bind (.ref a)
 have f5:=am_list_getattr_none
 unfold getAttr? getAttrBy? getAttrBy
 repeat (any_goals (first | assumption | exact hT _ | ((with_reducible show wpAny _ _ (call (Value.builtin "list.__getattribute__") _ _) _ _ _);refine call_meets PySem.F.slot_list_getattribute (hT _) am_entry_list_getattribute (PySem.F.args_list_getattribute_2 _ _) (meets_getattribute_miss_list a xs k sl "keys" _ wt (by decide) (by decide)) ⟨hx,hA,fun h' tk' e hx'=>?_⟩) | wp_step))
 obtain ⟨t',u',he⟩:=hx'.there
 show wpAny _ _ (getattributeRaised _ _ _ _ _ _ _) _ _ _
 unfold getattributeRaised
 repeat (any_goals (first | assumption | wp_step))
 exact h _ _ hx'.keeps
theorem pG:entryFor table "dict.update.loop" = some Builtin.«dict.update.loop»:=entryFor_of_tree (by kernel_rfl)
theorem ig:plainId "dict.update.loop" = true:=by decide +kernel
variable {K:Type} [DecidableEq K] {knd:KeyKind prog w K} {R:Result->Shared->Prop} {I d:Addr} {fp wr:List Addr} {P:Nat->Value->Prop} {St:Nat->Heap->Prop}
theorem A_ (pr:List (K × Value)) (W:Walks prog w A.in1 I fp wr pr.length P St) (hdf:d ∉ fp) (ad:Nat->Addr) (hval:∀i v,P i v->v=.ref (ad i)) (hap:∀j,j < pr.length->ad j ≠ d∧ad j ∉ wr) (hz:pr.length ≤ sizeLine) :
  ∀(m i:Nat) (z:Int) (t0:Tok) (h:Heap) (tk:Nat),pr.length - i=m->i ≤ pr.length->St i h->(∀j k v,pr[j]? = some (k,v)->∃key,knd.is k key=true∧h.IsTuple (ad j) #[key,v])->h.DictOf knd d (merged [] (pr.take i)) ->
   (∀h' tk',(∀b o,b ∉ d :: wr->h.get? b=some o->h'.get? b=some o)->h'.DictOf knd d (merged [] pr)->R (.ok (.ret .none)) { s with heap:=h',toks:=tk' }) ->
   codeAny (model prog w) A (.builtin "dict.update.loop" ⟨[.ref d,.ref I,.int z t0,.none],[]⟩) R { s with heap:=h,toks:=tk }:= by
 have hdw:d ∉ wr:=fun z=>hdf (W.sub _ z)
 intro m
 induction m with
 | zero=>
  intro i z t0 h tk hk hi st key dd fin
  have ei:i=pr.length:=by omega
  subst ei
  refine codeAny_builtin pG ?_
  rw [Around.under_plainId ig _]
  show wpAny (model prog w) A.in1 (pyNext (.ref I) >>= _) _ _ _
  refine wpAny_bind (W.done { s with heap:=h,toks:=tk } _ _ st fun h' tk' kp=>?_)
  rw [List.take_length] at dd
  exact wpAny_bind (wpAny_pure (wpAny_pure (fin h' tk' (fun b o hb e=>kp b o (fun z=>hb (List.mem_cons_of_mem _ z)) e) (dd.at fun o e=>kp d o hdw e))))
 | succ m ih=>
  intro i z t0 h tk hk hi st key dd fin
  have hlt:i < pr.length:=by omega
  refine codeAny_builtin pG ?_
  rw [Around.under_plainId ig _]
  show wpAny (model prog w) A.in1 (pyNext (.ref I) >>= _) _ _ _
  refine wpAny_bind (W.item i { s with heap:=h,toks:=tk } _ _ hlt st fun v h1 tk1 hP st1 kp=>?_)
  obtain rfl:=hval i v hP
  have key1:∀j k v,pr[j]? = some (k,v)->∃key,knd.is k key=true∧h1.IsTuple (ad j) #[key,v]:=fun j k v e=>by
   obtain ⟨ky,hk,o,ho,r⟩:=key j k v e
   exact ⟨ky,hk,o,kp _ _ (hap j (List.getElem?_eq_some_iff.mp e).1).2 ho,r⟩
  have dd1:h1.DictOf knd d (merged [] (pr.take i)):=dd.at fun o e=>kp d o hdw e
  obtain ⟨ky,hky,o,ho,hc,nn,hd⟩:=key1 i pr[i].1 pr[i].2 (List.getElem?_eq_getElem hlt)
  have hT:Shared.TypeIs { s with heap:=h1,toks:=tk1 } (.ref (ad i)) "tuple":=⟨o,ho,hc⟩
  refine wpAny_bind (wpAny_holding (wpAny_bind (wpAny_tryCatch ?_)))
  unfold Builtin.Dict.pairItems
  refine wpAny_bind (wpAny_typeOf hT ?_)
  rw [if_pos (by decide)]
  refine wpAny_bind (wpAny_seqItems ho hd ?_)
  refine wpAny_pure ?_
  show wpAny _ _ (holding [ky,pr[i].2] (dictSet d ky pr[i].2)) _ _ _
  refine wpAny_holding (wpAny_dictSet_pairs hky dd1 (fun h2 dd2 hs=>?_) ?_)
  .refine wpAny_pure ⟨plainId_quiet ig _,ih (i + 1) _ _ h2 _ (by omega) hlt (W.frame _ h1 h2 st1 fun b hb o e=>?_) (fun j k v e=>?_) ?_ fun h' tk' c1 c2=>fin h' tk' (fun b o hb e=>?_) c2⟩
   .rw [hs.2 b fun z=>hdf (z ▸ hb)];exact e
   .obtain ⟨ky,hk,o,ho,r⟩:=key1 j k v e
    exact ⟨ky,hk,o,by rw [hs.2 _ (hap j (List.getElem?_eq_some_iff.mp e).1).1];exact ho,r⟩
   .rw [merged_take_succ [] pr i pr[i] (List.getElem?_eq_getElem hlt)]
    exact dd2
   .refine c1 b o hb ?_
    rw [hs.2 b fun z=>hb (z ▸ List.mem_cons_self)]
    exact kp b o (fun z=>hb (List.mem_cons_of_mem _ z)) e
  .have:=merged_length_le ([]:List (K × Value)) (pr.take i)
   simp at this
   omega
end
section
variable {X:Cx}
structure Kj (K:PySem.W.Frag) (H:Hp) (ys:List V) (ps:List (Int × Int)):Prop where
 len:ys.length=ps.length
 at_:∀(i:Nat) a n,ps[i]? = some (a,n)->∃b,ys[i]? = some (V.ref b)∧gx K H b [.int a,.int n]
noncomputable abbrev pK (ps:List (Int × Int)):List (Key × V):=ps.map fun p=>(.inl p.1,.int p.2)
theorem rL (hc:X.calm=true):cT X (.type "dict") (fun xs H Q=>∃p ys ps,xs=[.ref p]∧fG X.K H p ys∧Kj X.K H ys ps∧∀l,H l=none->Q (.ref l) (upd H l (.dK (mergeK [] (pK ps))))):= by
 intro pins s σ H xs us Q I r h
 obtain ⟨p,ys,ps,rfl,hq,hp,q⟩:=h
 obtain ⟨u,rfl,rx⟩:=r.one
 cases rx
 obtain ⟨its,J,pl,hz⟩:=I.list hq
 have hlen:its.length=ps.length:=J.length.symm.trans hp.len
 have key:∀(i:Nat) a n,ps[i]? = some (a,n)->∃(b:Addr) (t1 t2:Tok),its[i]? = some (Value.ref b)∧s.heap.IsTuple b #[.int a t1,.int n t2]:=fun i a n e=>by
  obtain ⟨b,e1,h1⟩:=hp.at_ i a n e
  obtain ⟨u,e2,r⟩:=J.get e1
  cases r
  obtain ⟨its',J',tp,_⟩:=I.tuple h1
  obtain ⟨u1,u2,e3,r1,r2⟩:=J'.two
  obtain ⟨t1,rfl⟩:=r1
  obtain ⟨t2,rfl⟩:=r2
  subst e3
  exact ⟨b,t1,t2,e2,tp⟩
 obtain ⟨ad,had⟩:∃ad:Nat->Addr,∀(i:Nat) v,its[i]? = some v->v=.ref (ad i):=⟨fun i=>match its[i]? with | some (Value.ref b)=>b | _=>0,fun i v e=>by
  have hi:i < ps.length:=by rw [<- hlen];exact (List.getElem?_eq_some_iff.mp e).1
  obtain ⟨b,_,_,e2,_⟩:=key i ps[i].1 ps[i].2 (List.getElem?_eq_getElem hi)
  rw [e] at e2
  cases e2
  simp [e]⟩
 obtain ⟨tk2,htk⟩:∃tk2:Nat->Tok,∀(i:Nat) a n,ps[i]? = some (a,n)->∃t1,s.heap.IsTuple (ad i) #[.int a t1,.int n (tk2 i)]:= by
  have:∀i:Nat,∃t2,∀a n,ps[i]? = some (a,n)->∃t1,s.heap.IsTuple (ad i) #[.int a t1,.int n t2]:=fun i=>by
   cases e:ps[i]? with
   | none=>exact ⟨default,fun a n z=>nomatch z⟩
   | some x=>
    obtain ⟨b,t1,t2,e2,tp⟩:=key i x.1 x.2 e
    have:=had i _ e2
    cases this
    exact ⟨t2,fun a n z=>by cases z;exact ⟨t1,tp⟩⟩
  exact ⟨fun i=>(this i).choose,fun i=>(this i).choose_spec⟩
 let rs:List (Key × Value):=ps.mapIdx fun i p=>(.inl p.1,.int p.2 (tk2 i))
 have hrs:rs.length=ps.length:=List.length_mapIdx
 have krs:KV (pK ps) rs:= by
  have:∀(l:List (Int × Int)) (f:Nat->Tok),KV (pK l) (l.mapIdx fun i p=>((.inl p.1,.int p.2 (f i)):Key × Value)):=fun l=>by
   induction l with
   | nil=>intro f;exact .nil
   | cons x l ih=>intro f;rw [List.mapIdx_cons];exact .cons ⟨rfl,⟨_,rfl⟩⟩ (ih fun i=>f (i + 1))
  exact this ps tk2
 refine callType_codes (Q₁:=fun obj s₁=>obj=.ref s.heap.objs.size∧s₁={ s with heap:=s.heap.push { cls:=.type "dict",data:=.dict #[] } }) PySem.F.kt_called_dict (PySem.F.kt_typeCall_dict_1 _) PySem.F.entry_dict_init (kt_code_dict_new _ ⟨rfl,rfl⟩) ?_
 rintro obj s₁ ⟨rfl,rfl⟩
 have hnew:(s.heap.push { cls:=.type "dict",data:=.dict #[] }).DictOf (cm X.prog X.w) s.heap.objs.size []:=Heap.DictOf.new s.heap
 obtain ⟨⟨c1,c2,c3,c4⟩,nn,ho,ec,ed,edd⟩:=pl
 simp only at ec ed edd
 subst ec ed edd
 have hpS:p < s.heap.objs.size:=Heap.lt_size ho
 have ho1:=Heap.get?_push_of_some ({ cls:=.type "dict",data:=.dict #[] }:Obj) ho
 refine ⟨hnew.typeIs,PySem.F.args_dict_init_2 _ _,?_⟩
 unfold Builtin.«dict.__init__»
 refine wpAny_bind ?_
 unfold Builtin.Dict.selfAndRest
 refine wpAny_bind (wpAny_notOrdered_dict hnew.typeIs ?_)
 show wpAny _ _ (pure (s.heap.objs.size,[Value.ref p])) _ _ _
 refine wpAny_pure ?_
 show wpAny _ _ (Builtin.Dict.updateFrom "dict.__init__" s.heap.objs.size (.ref p) [] .none) _ _ _
 unfold Builtin.Dict.updateFrom
 refine wpAny_bind (wpAny_typeOf (T:="list") ⟨_,ho1,rfl⟩ ?_)
 rw [if_pos (by decide)]
 refine wpAny_bind (vD ho1 (by simp [I.ok.hd hc]) fun h2 tk2' kp2=>?_)
 have hh:X.A.in1.in1.handled=none:=by simp [I.ok.hd hc]
 show wpAny _ _ (rule _ >>= fun _=>_) _ _ _
 refine wpAny_bind (wpAny_rule ?_)
 have hl2:h2.IsList p its.toArray:=⟨_,kp2 _ _ ho1,rfl,nn,rfl⟩
 refine wpAny_bind (wpAny_pyIter_list hl2 ?_)
 have kp1:∀b o,s.heap.get? b=some o->h2.get? b=some o:=fun b o e=>kp2 b o (Heap.get?_push_of_some _ e)
 have hS2:s.heap.objs.size < h2.objs.size:= by
  obtain ⟨o,ho,_⟩:=hnew.typeIs (s:={ s with heap:=s.heap.push { cls:=.type "dict",data:=.dict #[] } })
  exact Heap.lt_size (kp2 _ _ ho)
 have adlt:∀j,j < ps.length->ad j < s.heap.objs.size:=fun j hj=>by
  obtain ⟨t1,o,ho,_⟩:=htk j ps[j].1 ps[j].2 (List.getElem?_eq_getElem hj)
  exact Heap.lt_size ho
 have hn:its.toArray.size=rs.length:=by rw [List.size_toArray,hlen,hrs]
 have W:=Walks.list (prog:=X.prog) (w:=X.w) (A:=X.A.in1.in1) hh h2.objs.size p (Nat.ne_of_lt (Nat.lt_trans hpS hS2)) its.toArray
 rw [hn] at W
 refine wpAny_pure ⟨plainId_quiet ig _,?_⟩
 refine A_ (s:=s) (knd:=cm X.prog X.w) rs W (fun z=>?_) ad (fun i v e=>had i v (by simpa using e)) (fun j hj=>?_) (by rw [hrs,<- hlen,<- J.length];exact hz) rs.length 0 _ _ _ _ rfl (Nat.zero_le _) ⟨⟨_,Heap.get?_push_size _ rfl,rfl,rfl⟩,hl2.push _⟩ (fun j k v e=>?_) ?_ fun h' tk' kp dd=>?_
 .rcases List.mem_cons.mp z with z | z
  .exact Nat.ne_of_lt hS2 z
  .exact Nat.ne_of_gt hpS (List.mem_singleton.mp z)
 .rw [hrs] at hj
  refine ⟨Nat.ne_of_lt (adlt j hj),fun z=>?_⟩
  exact Nat.ne_of_lt (Nat.lt_trans (adlt j hj) hS2) (List.mem_singleton.mp z)
 .rw [List.getElem?_mapIdx] at e
  cases e3:ps[j]? with
  | none=>rw [e3] at e;cases e
  | some x=>
   rw [e3] at e
   cases e
   obtain ⟨t1,tp⟩:=htk j x.1 x.2 e3
   exact ⟨_,kV_is (k:=.inl x.1) ⟨t1,rfl⟩,tp.at fun o e=>Heap.get?_push_of_some _ (kp1 _ o e)⟩
 .exact (hnew.at fun o e=>Heap.get?_push_of_some _ (kp2 _ o e))
 .have fr:H s.heap.objs.size=none:=I.fresh
  have kk:∀b u,s.heap.get? b=some u->h'.get? b=some u:=fun b u e=>kp b u (fun z=>by
   have hb:=Heap.lt_size e
   rcases List.mem_cons.mp z with z | z
   .exact Nat.ne_of_lt hb z
   .exact Nat.ne_of_lt (Nat.lt_trans hb hS2) (List.mem_singleton.mp z)) (Heap.get?_push_of_some _ (kp1 b u e))
  have big:(s.heap.objs.size == sysModules)=false:= by
   have:=I.big
   simp only [beq_eq_false_iff_ne]
   exact Nat.ne_of_gt this
  have rel:=KV.merge krs (kvs:=[]) (vs:=[]) .nil
  refine ⟨rfl,.ref s.heap.objs.size,_,I.laid kk (Nat.le_refl _) (dk_new (H':=upd H s.heap.objs.size (.dK (mergeK [] (pK ps)))) ?_ big rel dd),rfl,q _ fr⟩
  have:=merged_length_le ([]:List (Key × Value)) rs
  have h3:=J.length
  rw [rel.length]
  simp only [List.length_nil] at this
  omega
end
noncomputable def oA:List D->Option (List (Int × Int))
 | []=>some []
 | .tup [.int a,.int b] :: r=>(oA r).map ((a,b) :: ·)
 | _=>none
noncomputable def nc:List D->Option D
 | [.lst xs]=>(oA xs).map fun ps=>.dic (ps.foldl (fun acc p=>il acc p.1 p.2) [])
 | _=>none
theorem um:∀(ps acc:List (Int × Int)),mergeK (pK acc) (pK ps)=pK (ps.foldl (fun acc p=>il acc p.1 p.2) acc)
 | [],_=>rfl
 | p :: r,acc=>by
  have:=um r (il acc p.1 p.2)
  unfold mergeK at *
  rw [List.foldl_cons,<- this]
  show List.foldl _ (putK (pK acc) (.inl p.1) (.int p.2)) (pK r)=_
  exact congrArg (fun z=>List.foldl _ z (pK r)) (zF acc p.1 p.2)
theorem x9 {K:PySem.W.Frag} {H:Hp} {F:Hp} (le:∀b o,F b=some o->H b=some o):∀{xs:List D} {vs:List V} {ps:List (Int × Int)},Rs F xs vs->oA xs=some ps->Kj K H vs ps
 | [],vs,ps,h,e=>by cases e;cases h.inv0;exact ⟨rfl,fun i a n z=>by simp at z⟩
 | d :: xs,vs,ps,h,e=>by
  obtain ⟨v,r,rfl,o,C⟩:=h.inv
  unfold oA at e
  split at e
  .rename_i hh;cases hh
  .rename_i a b _ hh
   cases hh
   cases q:oA xs with
   | none=>rw [q] at e;cases e
   | some ps'=>
    rw [q] at e
    cases e
    obtain ⟨p,ws,rfl,hp,hw⟩:=o.tup
    obtain ⟨w1,w2,rfl,z1,hw2⟩:=hw.inv
    obtain ⟨w3,w4,rfl,z2,hw3⟩:=hw2.inv
    cases hw3.inv0
    have e1:=z1.int
    have e2:=z2.int
    subst e1 e2
    have ih:=x9 (K:=K) le C q
    refine ⟨by simp [ih.len],fun i a' n' z=>?_⟩
    cases i with
    | zero=>simp at z;obtain ⟨rfl,rfl⟩:=z;exact ⟨p,rfl,.inl (.inl (le _ _ hp))⟩
    | succ i=>simp at z;simpa using ih.at_ i a' n' z
  .cases e
theorem zH {K:PySem.W.Frag}:ju (fun xs H Q=>∃p ys ps,xs=[.ref p]∧fG K H p ys∧Kj K H ys ps∧∀l,H l=none->Q (.ref l) (upd H l (.dK (mergeK [] (pK ps))))) nc:=fun c δ S σ T H ds vs d Q l s e k=>by
 unfold nc at e
 split at e
 .rename_i xs
  cases q:oA xs with
  | none=>rw [q] at e;cases e
  | some ps=>
   rw [q] at e
   cases e
   have h:=s.st.left l
   have U:=s.st.right l
   obtain ⟨v,rfl,r⟩:=wy h
   obtain ⟨p,ws,rfl,I,o⟩:=r.lst
   refine ⟨p,ws,ps,rfl,.inl (Rd.mono br I),x9 br o q,fun a C=>?_⟩
   have em:=um ps []
   rw [show (mergeK [] (pK ps))=mergeK (pK []) (pK ps) from rfl,em]
   have s1:=s.stk U
   obtain ⟨f1,f2,J⟩:=s1.fresh C
   exact k _ _ (Sl.unhideO (d:=.dic (ps.foldl (fun acc p=>il acc p.1 p.2) [])) (s1.hide (o:=g9 _) C) f1 fun Hh h=>.mkDic h)
 .cases e
section
variable {X:Cx} {a:Expr} {fs:M (List D)} {p pos:Pos}
theorem yo (hm:X.mg "dict" = none) (ha:DA X [a] fs) (hg:Gl X "dict":=by rfl) (hc:X.calm=true:=by rfl) (he:starEach [a] X.env=[(false,eval a X.env)]:=by rfl):DE X (.Call (.Name "dict" p) [a] [] pos) (mC nc fs) :=
 l_ (rL hc) zH hg hm (by rfl) ha (by decide) (by rfl) he rfl
end
end Jt
namespace Jt
open PySem
variable{M:Nat}
noncomputable def av(M:Nat)(p:SetTable.Probe):SetTable.Probe:=if p.more>0 then{ p with j:=p.j+1,more:=p.more-1 }else
 { p with j:=(SetTable.leap M p.i p.perturb).1,more:=SetTable.runEnd M (SetTable.leap M p.i p.perturb).1-(SetTable.leap M p.i p.perturb).1,i:=(SetTable.leap M p.i p.perturb).1,perturb:=(SetTable.leap M p.i p.perturb).2 }
noncomputable def rl(M i:Nat):Nat:=SetTable.runEnd M i-i
noncomputable def lp(M:Nat):Nat->Nat×Nat->Nat×Nat
 |0,s=>s
 |n+1,s=>SetTable.leap M (lp M n s).1 (lp M n s).2
end Jt
namespace Jt.Tu
open PySem Jt
section
set_option maxHeartbeats 8000000 in
end
section
set_option maxHeartbeats 8000000 in
end
end Jt.Tu
namespace Jt
open PySem L2
section
variable {δ:DS}
theorem Hx(ds:List D)(I:Nat->DS->Prop)(U:Ok fi δ λ it C=>it=bF ds/\I 0 C)
  (ht:∀k(hk:k<ds.length) δ,I k δ->Ok (gt ds[k]) δ λ _ J=>Ok body J λ fl o=>match fl with
   | .nx=>I (k+1) o
   | .ct=>I (k+1) o
   | .bk=>Ok g o Q
   | .rt d=>Q (.rt d) o
   | .rf d=>Q (.rf d) o)(hQ:∀δ,I ds.length δ->Ok g δ Q):Ok (d6 (do let it<- fi;Jt.forM gt body it.2 it.1) g) δ Q:=by refine cP.mpr (oBind (U.mono λ it C ⟨e,h0⟩=>?_));subst e;exact qX ds I h0 (λ k hk δ h=>(ht k hk δ h).mono λ _ _ h=>h.mono λ fl _ h=>by omega) hQ
end
end Jt
namespace K02
open PySem L2 Jt
noncomputable def top (i:Nat):Stmt:=PySem.Challenge.pw_jointrees_k02_pieces_named_beside_withou.main.body.getD i (.Pass ⟨0,0,0,0⟩)
structure Bi (mg:Str->Option Value):Prop where
 all:mg "all" = none
 bool:mg "bool" = none
 dict:mg "dict" = none
 enumerate:mg "enumerate" = none
 int:mg "int" = none
 isinstance:mg "isinstance" = none
 len:mg "len" = none
 list:mg "list" = none
 max:mg "max" = none
 min:mg "min" = none
 range:mg "range" = none
 set:mg "set" = none
 sorted:mg "sorted" = none
 tuple:mg "tuple" = none
 zip:mg "zip" = none
 g_MOST_COLUMNS:∃t,mg "MOST_COLUMNS" = some (.int 7 t)
 g_MOST_HEADS:∃t,mg "MOST_HEADS" = some (.int 6 t)
section
variable {P:Program} {w:World} {K:PySem.W.Frag} {mg:Str->Option Value} {base:Heap}
abbrev yV:List Str:=["_law_script","_law_k"]
noncomputable def qf:Pk HP 2 "_law_cell" yV (top 32) fun c k o=>Bi c.mg->o :=
 ⟨_,fun E m=>
  kP E fun nd hr=>
  (aY (dN (yG (aR 1) (cM m.len (aQ (aR 0) aU))) (a_ (bz (bc (aR 0) (aR 1)))) cf)
  (a_ (bz (cQ (iZ aW (aR 1)) aW))))⟩
noncomputable abbrev sV:=qf.m
abbrev xJ:List Str:=["_law_script","_law_k","_law_cell_here","_law_number","_law_mixed","_law_j"]
noncomputable def qN:Pk HF 2 "_law_box" xJ (top 33) fun c k o=>Bi c.mg->qf.H c k->o :=
 ⟨_,fun E m i2p=>
  kF E fun nd hr=>
  (aY (bC 2 nd (bu i2p hr (aQ (aR 0) (aQ (aR 1) aU))))
  (aY (dN (fY (km (aR 2) aW) aW) (a_ (jL (cy (aQ (yA (aR 2) aW) aU)))) cf)
  (aY (bC 3 nd aW)
  (aY (bC 4 nd (km (aR 2) aW))
  (aY (fA (cz rfl m.range (aQ aW aU)) (bO 5 nd) (aY (bC 4 nd (km (cQ (cQ (cQ (iZ (aR 4) aW) (iZ (iZ aW (aR 5)) (aR 5))) (iZ aW (aR 1))) aW) aW))
  (a_ (bC 3 nd (cQ (iZ (aR 3) aW) (aR 4))))))
  (a_ (jL (cy (aQ (aR 3) aU)))))))))⟩
noncomputable abbrev tW:=qN.m
abbrev ma:List Str:=["_law_box_here","_law_many","_law_digit"]
noncomputable def iP:Pk HB 2 "_law_take" ma (top 34) fun c k o=>o :=
 ⟨_,fun E  =>
  kB E fun nd hr=>
  (aY (bC 2 nd (km (kb 0 aW) (aR 1)))
  (aY (zX 0 (yA (kb 0 aW) (aR 1)))
  (a_ (bz (aR 2)))))⟩
noncomputable abbrev kj:=iP.m
abbrev EJ:List Str:=["_law_box_here","_law_many","_law_left"]
noncomputable def Aa:Pk HB 2 "_law_order" EJ (top 40) fun c k o=>Bi c.mg->iP.H c k->o :=
 ⟨_,fun E m i03=>
  kB E fun nd hr=>
  (aY (gz 2 nd (fI m.list m.range (aQ (aR 1) aU)))
  (a_ (bz (bK m.tuple (aQ (bg (cW (tx EJ "_law_place" 3 (cw (cz rfl m.range (aQ (aR 1) aU))) fun _=>(yQ 2 (aQ (bp 0 i03 hr (aQ (jV 2 m.len) aU)) aU))))) aU)))))⟩
noncomputable abbrev Gf:=Aa.m
abbrev lJ:List Str:=["_law_box_here","_law_many","_law_way","_law_size","_law_heads","_law_turn","_law_some","_law_ahead","_law_fresh","_law_left","_law_order_here"]
noncomputable def yE:Pk HB 1 "_law_layout" lJ (top 39) fun c k o=>Bi c.mg->iP.H c k->o :=
 ⟨_,fun E m i03=>
  kB E fun nd hr=>
  (aY (bC 1 nd (cQ aW (bp 0 i03 hr (aQ aW aU))))
  (aY (bC 2 nd (bp 0 i03 hr (aQ aW aU)))
  (aY (bC 3 nd (cQ aW (bp 0 i03 hr (aQ aW aU))))
  (aY (dN (nD (jb (fY (aR 2) aW) (h9 (mG (aR 1) aW)))) (aY (bC 3 nd (oz m.min (aQ (aR 1) (aQ aW aU))))
  (a_ (bz (bG (aQ (aR 1) (aQ (bK m.tuple (aQ (bg (cW (tx lJ "_law_k" 11 (cw (cz rfl m.range (aQ (aR 3) aU))) fun _=>(bK m.tuple (aQ (bg (e9 m.sorted (j3 (bg (cy (aQ (aR 11) (aQ (km (cQ (aR 11) aW) (aR 3)) aU))))))) aU))))) aU)) aU)))))) cf)
  (aY (dN (nD (jb (fY (aR 2) aW) (h9 (mG (aR 1) aW)))) (aY (bC 3 nd (cQ aW (bp 0 i03 hr (aQ (GQ (oz m.min (aQ (aR 1) (aQ aW aU))) aW) aU))))
  (a_ (bz (bG (aQ (aR 1) (aQ (bK m.tuple (aQ (bg (cW (tx lJ "_law_out" 11 (cw (cz rfl m.range (aQ (aR 3) aU))) fun _=>(bK m.tuple (aQ (bg (cW (zM (lJ ++ (["_law_out"]:List Str)) "_law_k" 12 (cw (cz rfl m.range (aQ (aR 3) aU))) (fun _=>(pX hr (aR 12) (aR 11))) fun _=>(aR 12)))) aU))))) aU)) aU)))))) cf)
  (aY (gz 4 nd (cy aU))
  (aY (fA (cz rfl m.range (aQ (aR 3) aU)) (bO 5 nd) (aY (m_ 6 nd (zM lJ "_law_column" 11 (cw (cz rfl m.range (aQ (aR 1) aU))) (fun _=>(fY (bp 0 i03 hr (aQ aW aU)) aW)) fun _=>(aR 11)))
  (aY (dN (nD (jb (yG (aR 2) aW) (h9 (xK hr (rq 4) (iz (bg (cy aU))))))) (aY (bC 7 nd (kb 4 (bp 0 i03 hr (aQ (jV 4 m.len) aU))))
  (aY (m_ 8 nd (zM lJ "_law_column" 11 (cw (cj (aR 6))) (fun _=>(sU hr (bg (cW (zM (lJ ++ (["_law_column"]:List Str)) "_law_head" 12 (GF 4) (fun _=>(zR (aR 11) (aR 12))) fun _=>(aR 12)))) (bg (cy aU)))) fun _=>(aR 11)))
  (a_ (bC 6 nd (bg (sO (iz (aR 8)) (iz (bg (cW (zM lJ "_law_column" 11 (cw (cj (aR 7))) (fun _=>(fY (bp 0 i03 hr (aQ aW aU)) aW)) fun _=>(aR 11))))))))))) cf)
  (aY (dN (nD (jb (fY (aR 2) aW) (jb (xK hr (rq 4) (iz (bg (cy aU)))) (h9 (fY (bp 0 i03 hr (aQ aW aU)) aW))))) (a_ (bC 6 nd (kb 4 (bp 0 i03 hr (aQ (jV 4 m.len) aU))))) cf)
  (a_ (iQ 4 (aQ (EZ (bK m.tuple (aQ (bg (nK m.sorted m.set (j3 (aR 6)))) aU)) (fH (bG (aQ (bp 0 i03 hr (aQ (aR 1) aU)) aU)))) aU)))))))
  (aY (gz 9 nd (fI m.list m.range (aQ (aR 3) aU)))
  (aY (m_ 10 nd (tx (["_law_box_here","_law_many","_law_way","_law_size","_law_heads","?5","_law_some","_law_ahead","_law_fresh","_law_left","_law_order_here"]:List Str) "_law_turn" 11 (cw (cz rfl m.range (aQ (aR 3) aU))) fun _=>(yQ 9 (aQ (bp 0 i03 hr (aQ (jV 9 m.len) aU)) aU))))
  (a_ (bz (bG (aQ (aR 1) (aQ (bK m.tuple (aQ (bg (cW (tx lJ "_law_number" 11 (cw (cj (aR 10))) fun _=>(kb 4 (aR 11))))) aU)) aU))))))))))))))⟩
noncomputable abbrev Fu:=yE.m
abbrev Ey:List Str:=["thing"]
noncomputable def qB:Pk HP 1 "is_whole" Ey (top 15) fun c k o=>Bi c.mg->o :=
 ⟨_,fun E m=>
  kP E fun nd hr=>
  (a_ (bz (fL (d_ .int m.isinstance m.int (aR 0)) (fH (yf (d_ .bool m.isinstance m.bool (aR 0)))))))⟩
noncomputable abbrev yI:=qB.m
abbrev EF:List Str:=["thing","many"]
noncomputable def kg:Pk HP 2 "is_below" EF (top 16) fun c k o=>qB.H c k->o :=
 ⟨_,fun E i2q=>
  kP E fun nd hr=>
  (a_ (bz (fL (bu i2q hr (aQ (aR 0) aU)) (fH (CZ aW (aR 0) (aR 1))))))⟩
noncomputable abbrev xV:=kg.m
abbrev Fw:List Str:=["layout","thing"]
noncomputable def zt:Pk HP 2 "need_head" Fw (top 24) fun c k o=>Bi c.mg->kg.H c k->o :=
 ⟨_,fun E m i0m=>
  kP E fun nd hr=>
  (a_ (dN (fm (cU (bu i0m hr (aQ (aR 1) (aQ (cM m.len (aQ (bc (aR 0) aW) aU)) aU))))) (a_ xB) cf))⟩
noncomputable abbrev EL:=zt.m
abbrev xC:List Str:=["layout","one","other","heads"]
noncomputable def oI:Pk HP 3 "common" xC (top 25) fun c k o=>Bi c.mg->zt.H c k->o :=
 ⟨_,fun E m G_q4=>
  kP E fun nd hr=>
  (aY (uH (bu G_q4 hr (aQ (aR 0) (aQ (aR 1) aU))))
  (aY (uH (bu G_q4 hr (aQ (aR 0) (aQ (aR 2) aU))))
  (aY (bC 3 nd (bc (aR 0) aW))
  (a_ (bz (bK m.tuple (aQ (bg (cW (zM xC "column" 4 (cw (cj (bc (aR 3) (aR 1)))) (fun _=>(zR (aR 4) (bc (aR 3) (aR 2)))) fun _=>(aR 4)))) aU)))))))⟩
noncomputable abbrev Af:=oI.m
abbrev xq:List Str:=["labels","one","other","least","most"]
noncomputable def qF:Pk HP 3 "linked" xq (top 20) fun c k o=>Bi c.mg->o :=
 ⟨_,fun E m=>
  kP E fun nd hr=>
  (aY (bC 3 nd (oz m.min (aQ (bc (aR 0) (aR 1)) (aQ (bc (aR 0) (aR 2)) aU))))
  (aY (bC 4 nd (yH m.max (aQ (bc (aR 0) (aR 1)) (aQ (bc (aR 0) (aR 2)) aU))))
  (a_ (bz (bK m.tuple (aQ (bg (cW (tx xq "label" 5 (cw (cj (aR 0))) fun _=>(D2 (sU hr (aR 5) (aR 4)) (aR 3) (aR 5))))) aU))))))⟩
noncomputable abbrev zb:=qF.m
abbrev tG:List Str:=["layout","numbers","labels","one","other"]
noncomputable def pB:Pk HF 1 "pieces" tG (top 26) fun c k o=>Bi c.mg->oI.H c k->qF.H c k->o :=
 ⟨_,fun E m i2r i2t=>
  kF E fun nd hr=>
  (aY (bC 1 nd (bg (fI m.list m.range (aQ (cM m.len (aQ (bc (aR 0) aW) aU)) aU))))
  (aY (bC 2 nd (bK m.tuple (aQ (aR 1) aU)))
  (aY (fA (cj (aR 1)) (bO 3 nd) (a_ (fA (cj (cC (aR 1) du (dv (aR 3)))) (bO 4 nd) (a_ (dN (cU (bu i2r hr (aQ (aR 0) (aQ (aR 3) (aQ (aR 4) aU))))) (a_ (bC 2 nd (bu i2t hr (aQ (aR 2) (aQ (aR 3) (aQ (aR 4) aU)))))) cf)))))
  (a_ (jL (cW (zM tG "least" 5 (cw (cj (aR 1))) (fun _=>(sU hr (bc (aR 2) (aR 5)) (aR 5))) fun _=>(bK m.tuple (aQ (bg (cW (zM (tG ++ (["least"]:List Str)) "number" 6 (cw (cj (aR 1))) (fun _=>(sU hr (bc (aR 2) (aR 6)) (aR 5))) fun _=>(aR 6)))) aU)))))))))⟩
noncomputable abbrev y8:=pB.m
abbrev D4:List Str:=["_law_box_here","_law_some"]
noncomputable def qL:Pk HB 1 "_law_odd" D4 (top 36) fun c k o=>iP.H c k->o :=
 ⟨(d6 (td 1 (do let xs <- (qo (bw (pure .non) (bw (pure (.bl true)) (bw (pure (.int 7)) (bw (pure (.str "")) (bw (pure (.str "0")) (bw (iy (pure [])) (bw (do let xs <- (qo (pure []));pure (D.lst xs)) (bw (pure .dct) (bw (iy (bw (pure (.int 1)) (bw (pure (.int 2)) (pure [])))) (bw (iy (bw (pure (.int 0)) (pure []))) (bw (iy (bw (pure (.int 1)) (bw (pure (.int 0)) (pure [])))) (bw (m1 w8 (pure (.int 1))) (bw (iy (bw (pure (.int 0)) (bw (pure (.int 1)) (pure [])))) (bw (do let xs <- (qo (bw (iy (bw (pure (.int 0)) (bw (pure (.int 1)) (pure [])))) (pure [])));pure (D.lst xs)) (bw (pure (.bl false)) (bw (iy (bw (pure (.int 2)) (bw (iy (bw (iy (bw (pure (.int 0)) (bw (pure (.int 1)) (pure [])))) (pure []))) (pure [])))) (pure []))))))))))))))))));pure (D.lst xs)))
  (do let d <- (m2 jk (ck 1) (do let _ <- dC 0;l3 0 2 (gN ma kj) (bw (pure (.int 16)) (pure []))));pure (Fl.rt d))),fun E i03=>
  kB E fun nd hr=>
  (by
  refine aY ?_ ?_;(focus exact (by show lQ _ (Stmt.Assign [Expr.Name _ _] (Expr.List _ _) _) (td 1 _);refine tJ 1 _ _ _ _ _ ?_ ?_ ?_ ?_ ?_ ?_;(focus exact nd);(focus exact rfl);(focus first | exact Or.inl rfl | exact Or.inr rfl);(focus first | exact .inl rfl | exact .inr rfl);(focus exact uB);show DE _ (Expr.List _ _) _;refine bg ?_;refine cy ?_;exact (by refine lU ?_ ?_;(focus exact nZ);refine lU ?_ ?_;(focus exact f7);refine lU ?_ ?_;(focus exact aW);refine lU ?_ ?_;(focus exact dU);refine lU ?_ ?_;(focus exact dU);refine rA ?_ ?_;(focus exact (bG aU));refine Hk ?_ ?_;(focus exact (bg (cy aU)));refine J1 ?_ ?_;(focus exact xl);refine rA ?_ ?_;(focus exact (bG (aQ aW (aQ aW aU))));refine rA ?_ ?_;(focus exact (bG (aQ aW aU)));refine rA ?_ ?_;(focus exact (bG (aQ aW (aQ aW aU))));refine IZ ?_ ?_;(focus exact (q0 aW));refine rA ?_ ?_;(focus exact (bG (aQ aW (aQ aW aU))));refine Hk ?_ ?_;(focus exact (bg (cy (aQ (bG (aQ aW (aQ aW aU))) aU))));refine lU ?_ ?_;(focus exact f7);refine rA ?_ ?_;(focus exact (bG (aQ aW (aQ (bG (aQ (bG (aQ aW (aQ aW aU))) aU)) aU))));exact aU)));exact (a_ (bz (bc (aR 1) (bp 0 i03 hr (aQ aW aU))))))⟩
noncomputable abbrev xA:=qL.m
abbrev Ea:List Str:=["_law_box_here","_law_order_here","_law_at","_law_odd_here","_law_some"]
noncomputable def pV:Pk HB 2 "_law_bent" Ea (top 46) fun c k o=>Bi c.mg->qL.H c k->iP.H c k->o :=
 ⟨_,fun E m i2u i03=>
  kB E fun nd hr=>
  (by
  apply aY;(focus exact (bC 2 nd (bp 0 i03 hr (aQ (cM m.len (aQ (aR 1) aU)) aU))));exact (by
  apply aY;(focus exact (by apply tJ 3;(focus exact nd);(focus exact rfl);(focus first | exact Or.inl rfl | exact Or.inr rfl);(focus first | exact .inl rfl | exact .inr rfl);(focus exact rfl);apply bc (hs:=fun _ _=>rfl);(focus apply bg;apply cy;apply aQ;(focus exact (cM m.len (aQ (aR 1) aU)));apply IZ;(focus exact (q0 aW));apply lU;(focus exact f7);apply lU;(focus exact nZ);apply lU;(focus exact dU);apply rA;(focus exact (bG (aQ aW aU)));apply lU;(focus exact aW);exact aU;all_goals rfl);(focus exact (bp 0 i03 hr (aQ aW aU)))));exact (aY (bC 4 nd (bg (cy (aQ (eA (eA (cC (aR 1) du (dv (aR 2))) (bG (aQ (aR 3) aU))) (cC (aR 1) (dv (cQ (aR 2) aW)) du)) (aQ (cC (aR 1) (dv aW) du) (aQ (eA (aR 1) (cC (aR 1) du (dv aW))) (aQ (bg (B8 m.list (aQ (aR 1) aU))) (aQ (Fo (aR 1)) aU))))))))
  (a_ (bz (bc (bg (sO (iz (aR 4)) (iz (bg (cy (aQ (eA (cC (aR 1) (dv (aR 2)) du) (cC (aR 1) du (dv (aR 2)))) (aQ nZ (aQ (bp 0 i2u hr aU) aU)))))))) (bp 0 i03 hr (aQ aW aU))))))))⟩
noncomputable abbrev yJ:=pV.m
abbrev wG:List Str:=["thing","many"]
noncomputable def qj:Pk HP 2 "are_below" wG (top 17) fun c k o=>Bi c.mg->kg.H c k->o :=
 ⟨_,fun E m i0m=>
  kP E fun nd hr=>
  (a_ (bz (fL (d_ .tup m.isinstance m.tuple (aR 0)) (fH (sg m.all (aQ (bg (cW (tx wG "part" 2 (cw (cj (aR 0))) fun _=>(bu i0m hr (aQ (aR 2) (aQ (aR 1) aU)))))) aU))))))⟩
noncomputable abbrev wJ:=qj.m
abbrev Ie:List Str:=["things"]
noncomputable def xh:Pk HP 1 "are_unlike" Ie (top 18) fun c k o=>Bi c.mg->o :=
 ⟨_,fun E m=>
  kP E fun nd hr=>
  (a_ (bz (ny (uX m.len m.set (j3 (aR 0))) (cM m.len (aQ (aR 0) aU)))))⟩
noncomputable abbrev E4:=xh.m
abbrev Hq:List Str:=["thing","many"]
noncomputable def qT:Pk HP 2 "are_all_below" Hq (top 19) fun c k o=>Bi c.mg->qj.H c k->xh.H c k->o :=
 ⟨_,fun E m i2v G_q5=>
  kP E fun nd hr=>
  (a_ (bz (fL (bu i2v hr (aQ (aR 0) (aQ (aR 1) aU))) (fL (ny (cM m.len (aQ (aR 0) aU)) (aR 1)) (fH (bu G_q5 hr (aQ (aR 0) aU)))))))⟩
noncomputable abbrev r8:=qT.m
abbrev mx:List Str:=["heads","places"]
noncomputable def mw:Pk HP 2 "moved" mx (top 27) fun c k o=>Bi c.mg->o :=
 ⟨_,fun E m=>
  kP E fun nd hr=>
  (a_ (bz (bK m.tuple (aQ (bg (cW (tx mx "head" 2 (cw (cj (aR 0))) fun _=>(bK m.tuple (aQ (bg (e9 m.sorted (j3 (bg (cW (tx (mx ++ (["head"]:List Str)) "column" 3 (cw (cj (aR 2))) fun _=>(fO hr (aR 1) (aR 3)))))))) aU))))) aU))))⟩
noncomputable abbrev pq:=mw.m
abbrev kK:List Str:=["layout","order","many","heads"]
noncomputable def sQ (i01:Addr):Pk HX 2 "named" kK (top 28) fun c k o=>Bi c.mg->Ex c "NoOrder" i01->qT.H c k->mw.H c k->o :=
 ⟨_,fun E m i0a G_q0 i10=>
  kX E fun nd hr=>
  (df (gV (zI (aR 0) (iR (n:=2) (cF (bO 2 nd) (cF (bO 3 nd) gq)))))
  (df (nX (fm (cU (bu G_q0 hr (aQ (aR 1) (aQ (aR 2) aU))))) (dJ (gC PySem.F.excBase_ValueError i0a.1 i0a.2 (aQ dU aU))) f9)
  (dJ (gV (bz (bG (aQ (aR 2) (aQ (bu i10 hr (aQ (aR 3) (aQ (wD (N':=kK) (own:=["place","column"]) (lo:=4) hr (cw (uy m.enumerate (aQ (aR 1) aU))) (fun _ _ _ _=>(iR (n:=2) (cF (bO 4 (show (kK ++ (["place","column"]:List Str):List Str).Nodup by decide +kernel)) (cF (bO 5 (show (kK ++ (["place","column"]:List Str):List Str).Nodup by decide +kernel)) gq)))) (fun _ _ _ _=>jD) (fun _ _ _ _=>(aR 5)) (fun _ _ _ _=>(aR 4))) aU))) aU))))))))⟩
noncomputable abbrev pQ (i01:Addr):=(sQ i01).m
abbrev y9:List Str:=["one","other","many","heads"]
noncomputable def ud (i02:Addr):Pk HX 2 "beside" y9 (top 29) fun c k o=>Bi c.mg->Ex c "TooMany" i02->mw.H c k->o :=
 ⟨_,fun E m i0b i10=>
  kX E fun nd hr=>
  (df (gV (bC 2 nd (cQ (bc (aR 0) aW) (bc (aR 1) aW))))
  (df (gV (bC 3 nd (eA (bc (aR 0) aW) (bu i10 hr (aQ (bc (aR 1) aW) (aQ (bg (u4 m.list m.range (aQ (bc (aR 0) aW) (aQ (aR 2) aU)))) aU))))))
  (df (nX (nD (tD (mG (aR 2) (qm m.g_MOST_COLUMNS)) (nr (mG (cM m.len (aQ (aR 3) aU)) (qm m.g_MOST_HEADS))))) (dJ (gC PySem.F.excBase_ValueError i0b.1 i0b.2 (aQ dU aU))) f9)
  (dJ (gV (bz (bG (aQ (aR 2) (aQ (aR 3) aU)))))))))⟩
noncomputable abbrev xE (i02:Addr):=(ud i02).m
abbrev tR:List Str:=["layout","thing"]
noncomputable def tH (i00:Addr):Pk HX 2 "need_head" tR (top 24) fun c k o=>Bi c.mg->Ex c "NoHead" i00->kg.H c k->o :=
 ⟨_,fun E m i04 i0m=>
  kX E fun nd hr=>
  (dJ (nX (fm (cU (bu i0m hr (aQ (aR 1) (aQ (cM m.len (aQ (bc (aR 0) aW) aU)) aU))))) (dJ (gC PySem.F.excBase_ValueError i04.1 i04.2 (aQ dU aU))) f9))⟩
noncomputable abbrev ql (i00:Addr):=(tH i00).m
abbrev uk:List Str:=["layout","head","many","heads"]
noncomputable def uw (i00:Addr):Pk HX 2 "without" uk (top 30) fun c k o=>Bi c.mg->Ex c "NoHead" i00->(tH i00).H c k->o :=
 ⟨_,fun E m i04 i2w=>
  kX E fun nd hr=>
  (df (z_ (vA i2w hr (iA (oG (aR 0)) (iA (oG (aR 1)) uf))))
  (df (gV (zI (aR 0) (iR (n:=2) (cF (bO 2 nd) (cF (bO 3 nd) gq)))))
  (df (nX (fY (cM m.len (aQ (aR 3) aU)) aW) (dJ (gC PySem.F.excBase_ValueError i04.1 i04.2 (aQ dU aU))) f9)
  (dJ (gV (bz (bG (aQ (aR 2) (aQ (eA (cC (aR 3) du (dv (aR 1))) (cC (aR 3) (dv (cQ (aR 1) aW)) du)) aU)))))))))⟩
noncomputable abbrev pE (i00:Addr):=(uw i00).m
abbrev r6:List Str:=["_law_way","_law_layout_here","_law_thing","_law_e"]
noncomputable def xg (i00:Addr) (i01:Addr) (i02:Addr) (kn:Addr->Option Str):Pk HP 3 "_law_asked" r6 (top 43) fun c k o=>∀i2x i05 i4g,Kd c k i2x i05 i4g kn->(ud i02).H c k->(sQ i01).H c k->(uw i00).H c k->o :=
 ⟨_,fun E _ _ _ W i2y i30 i31=>
  kP E fun nd hr=>
  (a_ (B4 3 W.1 nd rfl rfl (dJ (AV (vk 0 i30 i2y i31 hr (iA (oG (aR 1)) (iA (oG (aR 2)) uf))))) hr W.2.1 W.2.2.1 W.2.2.2.1 W.2.2.2.2))⟩
noncomputable abbrev pH (i00:Addr) (i01:Addr) (i02:Addr) (kn:Addr->Option Str):=(xg i00 i01 i02 kn).m
noncomputable abbrev D0:Stmt:=top 38
abbrev pF:List Str:=["_law_found","_law_due"]
noncomputable def jx (rec:List D->Option D):M Fl :=
 (d6 (uQ (do let x <- (ux [.tup,.lst] (ck 1));lift (jc x)) (d6 (uQ (Ht (m2 (dA true) (l4 .tup (ck 0)) (l4 .tup (ck 1)) >>= lB) (m2 (dA true) (l4 .lst (ck 0)) (l4 .lst (ck 1)) >>= lB)) (do let d <- (pure (.bl false));pure (Fl.rt d)) (pure .nx))
  (do let d <- (w6 (m2 (dA false) (mC fk (bw (ck 0) (pure []))) (mC fk (bw (ck 1) (pure [])))) (mC oE (bw (do let xs <- (fe 2 2 (mC j5 (bw (ck 0) (bw (ck 1) (pure [])))) (cN (p8 2 (iU (hV 2) (iU (hV 3) pk))) (pure true) (mC (dH 2 rec) (bw (ck 2) (bw (ck 3) (pure []))))));pure (D.lst xs)) (pure []))));pure (Fl.rt d))) (pure .nx))
  (do let d <- (w6 (m2 (jS false) (ck 0) (ck 1)) (m2 (dA false) (l4 .bool (ck 0)) (l4 .bool (ck 1))));pure (Fl.rt d)))
noncomputable def dn:Nat->List D->Option D
 | 0=>fun _=>none
 | n + 1=>cg pF (jx (dn n))
variable (P w K mg base) in
noncomputable abbrev jq (k:Nat):Prop:=Kn P w K mg base d8 k "_law_same" ["_law_found","_law_due"] (qQ 2 (dn 4))
theorem z4 {k:Nat} (E:Ent K mg "_law_same" ["_law_found","_law_due"] D0) (m:Bi mg):∀n:Nat,Kn P w K mg base d8 (k + n) "_law_same" ["_law_found","_law_due"] (qQ 2 (dn n))
 | 0=>C5 E
 | n + 1=>by
  have i0n:=z4 (k:=k) E m n
  exact JS E fun nd _ _ _ _ _ _ _ hr=>
  (aY (dN (cU (Cu m.isinstance (aR 1) (EG .tup m.tuple (EG .lst m.list FC)))) (aY (dN (nD (tD (rj (d_ .tup m.isinstance m.tuple (aR 0)) (d_ .tup m.isinstance m.tuple (aR 1))) (nr (rj (d_ .lst m.isinstance m.list (aR 0)) (d_ .lst m.isinstance m.list (aR 1)))))) (a_ (bz f7)) cf)
  (a_ (bz (fL (ny (cM m.len (aQ (aR 0) aU)) (cM m.len (aQ (aR 1) aU))) (fH (sg m.all (aQ (bg (cW (KN pF ["_law_one","_law_other"] 2 (cw (Gg m.zip (aQ (aR 0) (aQ (aR 1) aU)))) (fun nd _=>(iR (cF (bO 2 nd) (cF (bO 3 nd) gq)))) (fun _=>jD) fun _=>(bu i0n hr (aQ (aR 2) (aQ (aR 3) aU)))))) aU))))))) cf)
  (a_ (bz (fL (IP hr (aR 0) (aR 1)) (fH (ny (d_ .bool m.isinstance m.bool (aR 0)) (d_ .bool m.isinstance m.bool (aR 1))))))))
abbrev qy:List Str:=["_law_layout_here","_law_one","_law_other"]
noncomputable def pj:Pk HP 3 "_law_both" qy (top 41) fun c k o=>Bi c.mg->o :=
 ⟨_,fun E m=>
  kP E fun nd hr=>
  (a_ (bz (bK m.tuple (aQ (bg (cW (zM qy "_law_column" 3 (cw (cj (bc (bc (aR 0) aW) (aR 1)))) (fun _=>(zR (aR 3) (bc (bc (aR 0) aW) (aR 2)))) fun _=>(aR 3)))) aU))))⟩
noncomputable abbrev qa:=pj.m
abbrev AO:List Str:=["_law_layout_here","_law_left","_law_found","_law_piece","_law_at"]
noncomputable def zO:Pk HF 1 "_law_pieces" AO (top 42) fun c k o=>Bi c.mg->pj.H c k->o :=
 ⟨_,fun E m i32=>
  kF E fun nd hr=>
  (aY (bC 1 nd (bg (fI m.list m.range (aQ (cM m.len (aQ (bc (aR 0) aW) aU)) aU))))
  (aY (gz 2 nd (cy aU))
  (aY (qq 8 (pX hr (aR 1) (bg (cy aU))) (aY (bC 3 nd (bg (cy (aQ (bc (aR 1) aW) aU))))
  (aY (bC 4 nd aW)
  (aY (qq 8 (yG (aR 4) (cM m.len (aQ (aR 3) aU))) (aY (bC 3 nd (bg (sO (iz (aR 3)) (iz (bg (cW (zM AO "_law_k" 5 (cw (cj (aR 1))) (fun _=>(nD (jb (o5 (aR 5) (aR 3)) (h9 (pX hr (bu i32 hr (aQ (aR 0) (aQ (bc (aR 3) (aR 4)) (aQ (aR 5) aU)))) (bG aU)))))) fun _=>(aR 5))))))))
  (a_ (bC 4 nd (cQ (aR 4) aW)))))
  (aY (iQ 2 (aQ (bK m.tuple (aQ (bg (e9 m.sorted (j3 (aR 3)))) aU)) aU))
  (a_ (m_ 1 nd (zM AO "_law_number" 5 (cw (cj (aR 1))) (fun _=>(o5 (aR 5) (aR 3))) fun _=>(aR 5)))))))))
  (a_ (jL (ET 2))))))⟩
noncomputable abbrev EW:=zO.m
abbrev HI:List Str:=["_law_thing"]
noncomputable def xY:Pk HP 1 "_law_whole" HI (top 35) fun c k o=>Bi c.mg->o :=
 ⟨_,fun E m=>
  kP E fun nd hr=>
  (a_ (bz (fL (d_ .int m.isinstance m.int (aR 0)) (fH (yf (d_ .bool m.isinstance m.bool (aR 0)))))))⟩
noncomputable abbrev Gd:=xY.m
abbrev o4:List Str:=["_law_layout_here","_law_order_here","_law_places"]
noncomputable def oY:Pk HP 2 "_law_named" o4 (top 44) fun c k o=>Bi c.mg->xY.H c k->o :=
 ⟨_,fun E m G_q9=>
  kP E fun nd hr=>
  (aY (dN (nD (tD (fm (cU (d_ .tup m.isinstance m.tuple (aR 1)))) (nr (fm (cU (sg m.all (aQ (bg (cW (tx o4 "_law_one" 3 (cw (cj (aR 1))) fun _=>(bu G_q9 hr (aQ (aR 3) aU))))) aU))))))) (a_ (bz dU)) cf)
  (aY (dN (pX hr (bg (e9 m.sorted (j3 (aR 1)))) (bg (fI m.list m.range (aQ (fO hr (aR 0) aW) aU)))) (a_ (bz dU)) cf)
  (aY (bC 2 nd (yo m.dict (aQ (bg (cW (KN (n:=2) o4 ["_law_number","_law_column"] 3 (cw (uy m.enumerate (aQ (aR 1) aU))) (fun nd _=>(iR (n:=2) (cF (bO 3 nd) (cF (bO 4 nd) gq)))) (fun _=>jD) fun _=>(bG (aQ (aR 4) (aQ (aR 3) aU)))))) aU)))
  (a_ (bz (bG (aQ (fO hr (aR 0) aW) (aQ (bK m.tuple (aQ (bg (cW (tx o4 "_law_head" 3 (cw (cj (fO hr (aR 0) aW))) fun _=>(bK m.tuple (aQ (bg (e9 m.sorted (j3 (bg (cW (tx (o4 ++ (["_law_head"]:List Str)) "_law_column" 4 (cw (cj (aR 3))) fun _=>(fO hr (aR 2) (aR 4)))))))) aU))))) aU)) aU))))))))⟩
noncomputable abbrev ka:=oY.m
abbrev v5:List Str:=["_law_one","_law_other"]
noncomputable def yO:Pk HP 2 "_law_beside" v5 (top 45) fun c k o=>Bi c.mg->o :=
 ⟨_,fun E m=>
  kP E fun nd hr=>
  (aY (dN (nD (tD (mG (cQ (bc (aR 0) aW) (bc (aR 1) aW)) aW) (nr (mG (cM m.len (aQ (eA (bc (aR 0) aW) (bc (aR 1) aW)) aU)) aW)))) (a_ (bz dU)) cf)
  (a_ (bz (bG (aQ (cQ (bc (aR 0) aW) (bc (aR 1) aW)) (aQ (eA (bc (aR 0) aW) (bK m.tuple (aQ (bg (cW (tx v5 "_law_head" 2 (cw (cj (bc (aR 1) aW))) fun _=>(bK m.tuple (aQ (bg (cW (tx (v5 ++ (["_law_head"]:List Str)) "_law_column" 3 (cw (cj (aR 2))) fun _=>(cQ (bc (aR 0) aW) (aR 3))))) aU))))) aU))) aU))))))⟩
noncomputable abbrev wB:=yO.m
abbrev xI:List Str:=["_law_script","_law_k","_law_box_here","_law_layout_here","_law_other","_law_turn","_law_found","_law_order_here","_law_thing","_law_one","_law_two","_law_number","_law_due"]
theorem dQ:bT xI ["_law_script"] (aX (top 47)):=⟨rfl,rfl,rfl,by decide +kernel,rfl,by decide +kernel,by decide +kernel⟩
noncomputable def xr (i00:Addr) (i01:Addr) (i02:Addr) (kn:Addr->Option Str):Kx xI (top 47) fun c k o=>Bi c.mg->(xg i00 i01 i02 kn).H c k->pV.H c k->yO.H c k->qN.H c k->yE.H c k->oY.H c k->Aa.H c k->zO.H c k->jq c.P c.w c.K c.mg c.base k->iP.H c k->pB.H c k->o :=
 ⟨_,fun hr m G_q6 i23 G_q1 i33 G_q2 G_q7 G_q8 G_q3 i0n i03 i34=>
  (aY (fA (cz rfl m.range (aQ (yH m.max (aQ aW (aQ (oz m.min (aQ (cM m.len (aQ (aR 0) aU)) (aQ aW aU))) aU))) aU)) (bO 1 dQ.nd) (aY (gz 2 dQ.nd (kR i33 hr (aQ (aR 0) (aQ (aR 1) aU))))
  (aY (EN 3 4 dQ.nd (aQ (bp 2 G_q2 hr aU) (aQ (bp 2 G_q2 hr aU) aU)))
  (aY (bC 4 dQ.nd (bc (bg (cy (aQ (aR 4) (aQ (bG (aQ (bc (aR 4) aW) (aQ (cC (bc (aR 4) aW) du (dv aW)) aU))) (aQ (bG (aQ aW (aQ (bG (aQ (bG (aQ aW aU)) aU)) aU))) aU))))) (bp 2 i03 hr (aQ aW aU))))
  (aY (fA (cz rfl m.range (aQ aW aU)) (bO 5 dQ.nd) (aY (gz 6 dQ.nd (kR i34 hr (aQ (aR 3) aU)))
  (aY (dN (fm (cU (vb i0n hr (qJ (rq 6) (qJ (iz (bg (kR G_q3 hr (aQ (aR 3) aU)))) De))))) (a_ (bz f7)) cf)
  (a_ (iQ 6 (aQ (bG aU) aU))))))
  (aY (bC 7 dQ.nd (bp 2 G_q8 hr (aQ (bc (aR 3) aW) aU)))
  (aY (fA (cj (bg (cy (aQ (aR 7) (aQ (bp 2 i23 hr (aQ (aR 7) aU)) (aQ (bp 2 i23 hr (aQ (aR 7) aU)) aU)))))) (bO 8 dQ.nd) (a_ (dN (fm (cU (bu i0n hr (aQ (bu G_q6 hr (aQ aW (aQ (aR 3) (aQ (aR 8) aU)))) (aQ (bu G_q7 hr (aQ (aR 3) (aQ (aR 8) aU))) aU))))) (a_ (bz f7)) cf)))
  (aY (fA (cj (bg (cy (aQ (bG (aQ (aR 3) (aQ (aR 4) aU))) (aQ (bG (aQ (aR 4) (aQ (aR 3) aU))) (aQ (bG (aQ (aR 4) (aQ (aR 4) aU))) aU)))))) (iR (n:=2) (cF (bO 9 dQ.nd) (cF (bO 10 dQ.nd) gq))) (a_ (dN (fm (cU (bu i0n hr (aQ (bu G_q6 hr (aQ aW (aQ (aR 9) (aQ (aR 10) aU)))) (aQ (bu G_q1 hr (aQ (aR 9) (aQ (aR 10) aU))) aU))))) (a_ (bz f7)) cf)))
  (aY (fA (cz rfl m.range (aQ (cM m.len (aQ (bc (aR 3) aW) aU)) aU)) (bO 11 dQ.nd) (aY (bC 12 dQ.nd (bG (aQ (bc (aR 3) aW) (aQ (eA (cC (bc (aR 3) aW) du (dv (aR 11))) (cC (bc (aR 3) aW) (dv (cQ (aR 11) aW)) du)) aU))))
  (a_ (dN (fm (cU (bu i0n hr (aQ (bu G_q6 hr (aQ aW (aQ (aR 3) (aQ (aR 11) aU)))) (aQ (D2 (pX hr (bc (aR 12) aW) (bG aU)) (aR 12) dU) aU))))) (a_ (bz f7)) cf))))
  (a_ (dN (rj (bu G_q6 hr (aQ aW (aQ (aR 3) (aQ (bc (bg (cy (aQ (cM m.len (aQ (bc (aR 3) aW) aU)) (aQ (q0 aW) (aQ f7 (aQ nZ (aQ dU (aQ (bG (aQ aW aU)) aU)))))))) (bp 2 i03 hr (aQ aW aU))) aU)))) dU) (a_ (bz f7)) cf)))))))))))
  (a_ (bz f7)))⟩
noncomputable abbrev zE (i00:Addr) (i01:Addr) (i02:Addr) (kn:Addr->Option Str):=(xr i00 i01 i02 kn).m
end
end K02
namespace K02
noncomputable def lk (L:List Nat) (i j:Nat):List Nat:=L.map fun l=>if l=max (L.getD i 0) (L.getD j 0) then min (L.getD i 0) (L.getD j 0) else l
noncomputable def pD (mt:Nat->Nat->Bool) (i:Nat):Nat->List Nat->List Nat
 | 0,L=>L
 | j + 1,L=>if mt i j=true then lk (pD mt i j L) i j else pD mt i j L
noncomputable def sv (mt:Nat->Nat->Bool):Nat->List Nat->List Nat
 | 0,L=>L
 | i + 1,L=>pD mt i i (sv mt i L)
noncomputable def dj (mt:Nat->Nat->Bool) (n:Nat):List Nat:=sv mt n (List.range n)
noncomputable def pc (L:List Nat) (n l:Nat):List Nat:=(List.range n).filter fun k=>decide (L.getD k 0=l)
noncomputable def Ar (mt:Nat->Nat->Bool) (n:Nat):List (List Nat):=((List.range n).filter fun l=>decide ((dj mt n).getD l 0=l)).map (pc (dj mt n) n)
noncomputable def Lb (n:Nat) (L:List Nat):Prop:=L.length=n∧∀k,k < n->L.getD k 0 ≤ k∧L.getD (L.getD k 0) 0=L.getD k 0
theorem zv (L:List Nat) (i j:Nat):(lk L i j).length=L.length:=List.length_map _
theorem fo {L:List Nat} (i j:Nat) {k:Nat} (h:k < L.length):(lk L i j).getD k 0=if L.getD k 0=max (L.getD i 0) (L.getD j 0) then min (L.getD i 0) (L.getD j 0) else L.getD k 0:= by
 unfold lk
 simp [List.getD_eq_getElem?_getD,h]
theorem HQ {n:Nat} {L:List Nat} (h:Lb n L) {i j:Nat} (hi:i < n) (hj:j < n):Lb n (lk L i j):= by
 obtain ⟨e,h⟩:=h
 refine ⟨by rw [zv,e],fun k hk=>?_⟩
 obtain ⟨a1,a2⟩:=h i hi
 obtain ⟨b1,b2⟩:=h j hj
 obtain ⟨c1,c2⟩:=h k hk
 have g:=fo i j (L:=L) (k:=k) (by omega)
 by_cases q:L.getD k 0=max (L.getD i 0) (L.getD j 0)
 .rw [if_pos q] at g
  rw [g]
  have h1:=fo i j (L:=L) (k:=min (L.getD i 0) (L.getD j 0)) (by omega)
  have h2:L.getD (min (L.getD i 0) (L.getD j 0)) 0=min (L.getD i 0) (L.getD j 0):= by
   rcases Nat.le_total (L.getD i 0) (L.getD j 0) with z | z
   .rw [Nat.min_eq_left z];exact a2
   .rw [Nat.min_eq_right z];exact b2
  rw [h2] at h1
  refine ⟨by omega,?_⟩
  rw [h1]
  split <;> rfl
 .rw [if_neg q] at g
  rw [g]
  have h1:=fo i j (L:=L) (k:=L.getD k 0) (by omega)
  rw [c2,if_neg q] at h1
  exact ⟨c1,h1⟩
theorem uz {L:List Nat} (i j:Nat) {x y:Nat} (hx:x < L.length) (hy:y < L.length) (e:L.getD x 0=L.getD y 0):(lk L i j).getD x 0=(lk L i j).getD y 0:= by
 rw [fo i j hx,fo i j hy,e]
theorem IW {L:List Nat} {i j:Nat} (hi:i < L.length) (hj:j < L.length):(lk L i j).getD i 0=(lk L i j).getD j 0:= by
 rw [fo i j hi,fo i j hj]
 split <;> split <;> omega
theorem qW {mt:Nat->Nat->Bool} {n i:Nat} (hi:i < n):∀(j:Nat) (L:List Nat),j ≤ i->Lb n L->Lb n (pD mt i j L)∧(∀x y,x < n->y < n->L.getD x 0=L.getD y 0->(pD mt i j L).getD x 0=(pD mt i j L).getD y 0)∧∀j',j' < j->mt i j' = true->(pD mt i j L).getD i 0=(pD mt i j L).getD j' 0
 | 0,L,_,h=>⟨h,fun x y _ _ e=>e,fun j' z=>absurd z (Nat.not_lt_zero _)⟩
 | j + 1,L,hj,h=>by
  obtain ⟨h1,h2,h3⟩:=qW hi j L (by omega) h
  unfold pD
  by_cases q:mt i j=true
  .rw [if_pos q]
   refine ⟨HQ h1 hi (by omega),fun x y hx hy e=>uz _ _ (by rw [h1.1];exact hx) (by rw [h1.1];exact hy) (h2 x y hx hy e),fun j' hj' m=>?_⟩
   by_cases z:j' = j
   .rw [z];exact IW (by rw [h1.1];exact hi) (by rw [h1.1];omega)
   .exact uz _ _ (by rw [h1.1];exact hi) (by rw [h1.1];omega) (h3 j' (by omega) m)
  .rw [if_neg q]
   refine ⟨h1,h2,fun j' hj' m=>?_⟩
   have z:j' ≠ j:=fun z=>q (z ▸ m)
   exact h3 j' (by omega) m
theorem oa {mt:Nat->Nat->Bool} {n:Nat} {L:List Nat} (h:Lb n L):∀i,i ≤ n->Lb n (sv mt i L)∧∀i' j',i' < i->j' < i' -> mt i' j' = true->(sv mt i L).getD i' 0=(sv mt i L).getD j' 0
 | 0,_=>⟨h,fun i' j' z=>absurd z (Nat.not_lt_zero _)⟩
 | i + 1,hi=>by
  obtain ⟨h1,h2⟩:=oa h i (by omega)
  obtain ⟨g1,g2,g3⟩:=qW (mt:=mt) (i:=i) (n:=n) (by omega) i (sv mt i L) (Nat.le_refl _) h1
  unfold sv
  refine ⟨g1,fun i' j' hi' hj' m=>?_⟩
  by_cases z:i' = i
  .subst z;exact g3 j' hj' m
  .exact g2 i' j' (by omega) (by omega) (h2 i' j' (by omega) hj' m)
theorem j9 (n:Nat):Lb n (List.range n):=⟨List.length_range,fun k hk=>by
 have:(List.range n).getD k 0=k:=by simp [List.getD_eq_getElem?_getD,hk]
 rw [this,this]
 exact ⟨Nat.le_refl _,rfl⟩⟩
theorem oB (mt:Nat->Nat->Bool) (n:Nat):Lb n (dj mt n):=(oa (j9 n) n (Nat.le_refl _)).1
theorem mH {mt:Nat->Nat->Bool} (hc:∀i j,mt i j=mt j i) {n i j:Nat} (hi:i < n) (hj:j < n) (m:mt i j=true):(dj mt n).getD i 0=(dj mt n).getD j 0:= by
 have h:=(oa (mt:=mt) (j9 n) n (Nat.le_refl _)).2
 rcases Nat.lt_trichotomy i j with z | z | z
 .exact (h j i hj z (by rw [hc];exact m)).symm
 .rw [z]
 .exact h i j hi z m
theorem Gi {L:List Nat} {n l k:Nat}:k ∈ pc L n l ↔ k < n∧L.getD k 0=l:=by simp [pc,List.mem_filter]
theorem A5 {mt:Nat->Nat->Bool} {n:Nat} {p:List Nat} (h:p ∈ Ar mt n):∃l,l < n∧p=pc (dj mt n) n l:= by
 obtain ⟨l,hl,rfl⟩:=List.mem_map.mp h
 exact ⟨l,List.mem_range.mp (List.mem_filter.mp hl).1,rfl⟩
noncomputable def sh (L:List Nat):List Nat:=0 :: 0 :: L.map (· + 2)
noncomputable def Sep (n:Nat) (S:Nat->Prop) (L:List Nat):Prop:=L.length=n∧∀x y,x < n->y < n->L.getD x 0=L.getD y 0->(S x ↔ S y)
theorem F9 {n:Nat} {S:Nat->Prop} {L:List Nat} (h:Sep n S L) {i j:Nat} (hi:i < n) (hj:j < n) (e:S i ↔ S j):Sep n S (lk L i j):= by
 refine ⟨(zv L i j).trans h.1,fun x y hx hy q=>?_⟩
 rw [fo i j (by rw [h.1];exact hx),fo i j (by rw [h.1];exact hy)] at q
 have key:∀z,z < n->(L.getD z 0=L.getD i 0 ∨ L.getD z 0=L.getD j 0)->(S z ↔ S i):=fun z hz o=>o.elim (fun o=>h.2 z i hz hi o) fun o=>(h.2 z j hz hj o).trans e.symm
 by_cases a:L.getD x 0=L.getD y 0
 .exact h.2 x y hx hy a
 .have hx':L.getD x 0=L.getD i 0 ∨ L.getD x 0=L.getD j 0:= by
   split at q <;> split at q <;> omega
  have hy':L.getD y 0=L.getD i 0 ∨ L.getD y 0=L.getD j 0:= by
   split at q <;> split at q <;> omega
  exact (key x hx hx').trans (key y hy hy').symm
theorem tF {n:Nat} {S:Nat->Prop} {mt:Nat->Nat->Bool} (hm:∀x y,x < n->y < n->mt x y=true->(S x ↔ S y)) {i:Nat} (hi:i < n) {L:List Nat} (h:Sep n S L):∀j,j ≤ i->Sep n S (pD mt i j L)
 | 0,_=>h
 | j + 1,hj=>by
  have ih:=tF hm hi h j (by omega)
  unfold pD
  by_cases q:mt i j=true
  .rw [if_pos q];exact F9 ih hi (by omega) (hm i j hi (by omega) q)
  .rw [if_neg q];exact ih
theorem tI {n:Nat} {S:Nat->Prop} {mt:Nat->Nat->Bool} (hm:∀x y,x < n->y < n->mt x y=true->(S x ↔ S y)) {L:List Nat} (h:Sep n S L):∀i,i ≤ n->Sep n S (sv mt i L)
 | 0,_=>h
 | i + 1,hi=>tF hm (by omega) (tI hm h i (by omega)) i (Nat.le_refl _)
theorem xW {n:Nat} {S:Nat->Prop} {mt:Nat->Nat->Bool} (hm:∀x y,x < n->y < n->mt x y=true->(S x ↔ S y)):Sep n S (dj mt n) :=
 tI hm ⟨List.length_range,fun x y hx hy e=>by
  simp [List.getD_eq_getElem?_getD,hx,hy] at e
  rw [e]⟩ n (Nat.le_refl _)
section
variable {mt:Nat->Nat->Bool} {n:Nat}
noncomputable def iH (mt:Nat->Nat->Bool) (n:Nat):List Nat:=(List.range n).filter fun l=>decide ((dj mt n).getD l 0=l)
noncomputable def oJ (mt:Nat->Nat->Bool) (n t:Nat):List Nat:=(List.range n).filter fun k=>decide ((dj mt n).getD k 0 ∉ (iH mt n).take t)
theorem yW:(iH mt n).Pairwise (· < ·):=List.Pairwise.filter _ List.pairwise_lt_range
theorem jT {l:Nat}:l ∈ iH mt n ↔ l < n∧(dj mt n).getD l 0=l:=by simp [iH,List.mem_filter]
theorem dD {t k:Nat}:k ∈ oJ mt n t ↔ k < n∧(dj mt n).getD k 0 ∉ (iH mt n).take t:=by simp [oJ,List.mem_filter]
theorem za {k:Nat} (h:k < n):(dj mt n).getD k 0 ∈ iH mt n:= by
 obtain ⟨_,q⟩:=oB mt n
 obtain ⟨q1,q2⟩:=q k h
 exact jT.mpr ⟨by omega,q2⟩
theorem yx {t:Nat} (h:t < (iH mt n).length):(iH mt n)[t] ∉ (iH mt n).take t:=fun z=>by
 obtain ⟨i,hi,e⟩:=List.getElem_of_mem z
 rw [List.length_take] at hi
 rw [List.getElem_take] at e
 have:=List.pairwise_iff_getElem.mp (yW (mt:=mt) (n:=n)) i t (by omega) h (by omega)
 omega
theorem Ab {t:Nat} (h:t < (iH mt n).length):(iH mt n)[t] ∈ oJ mt n t:= by
 have hm:=jT.mp (List.getElem_mem h)
 exact dD.mpr ⟨hm.1,by rw [hm.2];exact yx h⟩
theorem AR:oJ mt n (iH mt n).length=[]:= by
 refine List.eq_nil_iff_forall_not_mem.mpr fun k hk=>?_
 obtain ⟨a,b⟩:=dD.mp hk
 rw [List.take_length] at b
 exact b (za a)
theorem pL {t:Nat} (h:t < (iH mt n).length):∃r,oJ mt n t=(iH mt n)[t] :: r:= by
 have hm:=Ab h
 cases e:oJ mt n t with
 | nil=>rw [e] at hm;cases hm
 | cons a r=>
  refine ⟨r,?_⟩
  have ha:a ∈ oJ mt n t:=by rw [e];exact List.mem_cons_self
  obtain ⟨h1,h2⟩:=dD.mp ha
  have hl:=za (mt:=mt) h1
  obtain ⟨i,hi,ei⟩:=List.getElem_of_mem hl
  have hti:t ≤ i:= by
   refine Nat.le_of_not_lt fun z=>h2 ?_
   rw [<- ei]
   exact List.mem_take_iff_getElem.mpr ⟨i,by omega,rfl⟩
  have hle:(iH mt n)[t] ≤ (iH mt n)[i]:= by
   by_cases q:t=i
   .subst q;exact Nat.le_refl _
   .exact Nat.le_of_lt (List.pairwise_iff_getElem.mp (yW (mt:=mt) (n:=n)) t i h hi (by omega))
  have hka:(dj mt n).getD a 0 ≤ a:=((oB mt n).2 a h1).1
  have hsort:(oJ mt n t).Pairwise (· < ·):=List.Pairwise.filter _ List.pairwise_lt_range
  have:a ≤ (iH mt n)[t]:= by
   rw [e] at hm hsort
   rcases List.mem_cons.mp hm with z | z
   .omega
   .exact Nat.le_of_lt ((List.pairwise_cons.mp hsort).1 _ z)
  have:a=(iH mt n)[t]:=by omega
  rw [this]
structure Bf (mt:Nat->Nat->Bool) (n t at_:Nat) (p:List Nat):Prop where
 nd:p.Nodup
 sub:∀x ∈ p,x ∈ oJ mt n t∧some ((dj mt n).getD x 0)=(iH mt n)[t]?
 rt:∀r,(iH mt n)[t]? = some r->r ∈ p
 le:at_ ≤ p.length
 cl:∀i x k,i < at_->p[i]? = some x->k ∈ oJ mt n t->mt x k=true->k ∈ p
theorem Bf.one {t:Nat} (h:t < (iH mt n).length):Bf mt n t 0 [(iH mt n)[t]]:= by
 refine ⟨List.pairwise_singleton _ _,fun x hx=>?_,fun r e=>?_,Nat.zero_le _,fun i x k z=>absurd z (Nat.not_lt_zero _)⟩
 .rw [List.mem_singleton.mp hx]
  exact ⟨Ab h,by rw [(jT.mp (List.getElem_mem h)).2,List.getElem?_eq_getElem h]⟩
 .rw [List.getElem?_eq_getElem h] at e;cases e;exact List.mem_cons_self
noncomputable def grow (mt:Nat->Nat->Bool) (n t at_:Nat) (p:List Nat):List Nat:=p ++ (oJ mt n t).filter fun k=>decide (k ∉ p) && mt (p.getD at_ 0) k
theorem Bf.step (hc:∀i j,mt i j=mt j i) {t at_:Nat} {p:List Nat} (B:Bf mt n t at_ p) (h:at_ < p.length):Bf mt n t (at_ + 1) (grow mt n t at_ p):= by
 have hg:p.getD at_ 0=p[at_]:=by simp [List.getD_eq_getElem?_getD,h]
 have hl:(oJ mt n t).Nodup:=List.Pairwise.filter _ List.nodup_range
 unfold grow
 rw [hg]
 refine ⟨?_,fun x hx=>?_,fun r e=>List.mem_append_left _ (B.rt r e),by rw [List.length_append];omega,fun i x k hi e hk m=>?_⟩
 .refine List.nodup_append.mpr ⟨B.nd,List.Pairwise.filter _ hl,fun a ha b hb e=>?_⟩
  subst e
  have:=(List.mem_filter.mp hb).2
  simp [ha] at this
 .rcases List.mem_append.mp hx with q | q
  .exact B.sub x q
  .obtain ⟨q1,q2⟩:=List.mem_filter.mp q
   simp only [Bool.and_eq_true] at q2
   obtain ⟨b1,b2⟩:=B.sub p[at_] (List.getElem_mem h)
   refine ⟨q1,?_⟩
   rw [<- mH hc (dD.mp b1).1 (dD.mp q1).1 q2.2]
   exact b2
 .by_cases q:k ∈ p
  .exact List.mem_append_left _ q
  .by_cases z:i=at_
   .subst z
    rw [List.getElem?_append_left h,List.getElem?_eq_getElem h] at e
    cases e
    exact List.mem_append_right _ (List.mem_filter.mpr ⟨hk,by simp [q,m]⟩)
   .have hi':i < at_:=by omega
    rw [List.getElem?_append_left (by have:=B.le;omega)] at e
    exact absurd (B.cl i x k hi' e hk m) q
theorem rH:∀(n:Nat) (ls:List Nat),ls.Nodup->(∀i ∈ ls,i < n)->ls.length ≤ n
 | 0,[],_,_=>Nat.le_refl _
 | 0,a :: r,_,h=>absurd (h a List.mem_cons_self) (Nat.not_lt_zero a)
 | n + 1,ls,hn,h=>by
  have h1:=rH n (ls.erase n) (hn.erase n) fun i hi=>by
   have:=(hn.mem_erase_iff).mp hi
   have:=h i this.2
   omega
  rw [List.length_erase] at h1
  split at h1 <;> omega
theorem Bf.len {t at_:Nat} {p:List Nat} (B:Bf mt n t at_ p):p.length ≤ n:=rH n p B.nd fun x hx=>(dD.mp (B.sub x hx).1).1
theorem Bf.mem (hc:∀i j,mt i j=mt j i) {t:Nat} (h:t < (iH mt n).length) {p:List Nat} (B:Bf mt n t p.length p) (x:Nat):x ∈ p ↔ x < n∧(dj mt n).getD x 0=(iH mt n)[t]:= by
 constructor
 .intro hx
  obtain ⟨a,b⟩:=B.sub x hx
  rw [List.getElem?_eq_getElem h] at b
  exact ⟨(dD.mp a).1,Option.some.inj b⟩
 .rintro ⟨hx,e⟩
  have cl:∀a b,a < n->b < n->mt a b=true->a ∈ p->b ∈ p:=fun a b ha hb m hp=>by
   obtain ⟨i,hi,ei⟩:=List.getElem_of_mem hp
   refine B.cl i a b hi (by rw [List.getElem?_eq_getElem hi,ei]) ?_ m
   have:=mH hc ha hb m
   exact dD.mpr ⟨hb,by rw [<- this];exact (dD.mp (B.sub a hp).1).2⟩
  have S:=xW (S:=(· ∈ p)) (mt:=mt) (n:=n) fun a b ha hb m=>⟨cl a b ha hb m,cl b a hb ha (by rw [hc];exact m)⟩
  have hr:=B.rt _ (List.getElem?_eq_getElem h)
  have hr':=jT.mp (List.getElem_mem h)
  exact (S.2 x _ hx hr'.1 (by rw [e,hr'.2])).mpr hr
theorem Bf.perm (hc:∀i j,mt i j=mt j i) {t:Nat} (h:t < (iH mt n).length) {p:List Nat} (B:Bf mt n t p.length p):p.Perm (pc (dj mt n) n (iH mt n)[t]) :=
 (List.perm_ext_iff_of_nodup B.nd (List.Pairwise.filter _ List.nodup_range)).mpr fun x=>(B.mem hc h x).trans Gi.symm
theorem Bf.next (hc:∀i j,mt i j=mt j i) {t:Nat} (h:t < (iH mt n).length) {p:List Nat} (B:Bf mt n t p.length p):((oJ mt n t).filter fun k=>decide (k ∉ p))=oJ mt n (t + 1):= by
 unfold oJ
 rw [List.filter_filter]
 refine List.filter_congr fun k hk=>?_
 have hk:=List.mem_range.mp hk
 have:=B.mem hc h k
 rw [List.take_add_one,List.getElem?_eq_getElem h]
 simp only [Option.toList_some,List.mem_append,List.mem_singleton]
 rw [Bool.eq_iff_iff]
 simp only [Bool.and_eq_true,decide_eq_true_eq]
 rw [this]
 constructor
 .rintro ⟨a,b⟩ (z | z)
  .exact b z
  .exact a ⟨hk,z⟩
 .intro a
  exact ⟨fun z=>a (.inr z.2),fun z=>a (.inl z)⟩
end
end K02
namespace K02
open PySem L2 Jt
noncomputable def hD (h:List Int):D:=.tup (h.map .int)
noncomputable def bt (m:Int) (hs:List (List Int)):D:=.tup [.int m,.tup (hs.map hD)]
noncomputable def lD (ls:List Nat):List D:=ls.map fun (i:Nat)=>.int (i:Int)
noncomputable def G (hs:List (List Int)) (i:Nat):List Int:=hs.getD i []
theorem vQ (h:List Int):kZ (h.map .int)=some (h.map V.int):= by
 induction h with
 | nil=>rfl
 | cons a r ih=>simp [kZ,flat,ih]
theorem DP (c:Int) (h:List Int):G7 (.int c) (h.map V.int)=decide (c ∈ h):= by
 induction h with
 | nil=>rfl
 | cons a r ih=>
  show (a == c || G7 (.int c) (r.map V.int))=_
  rw [ih]
  by_cases e:c=a
  .subst e;simp
  .simp [e,Ne.symm e]
theorem uD (neg:Bool) (c:Int) (h:List Int):DV neg (.int c) (hD h)=some (.bl (if neg then !decide (c ∈ h) else decide (c ∈ h))):= by
 simp [DV,hD,eN,flat,vQ,DP]
theorem j1 (h:List Int):d9 (hD h)=some (bF (h.map .int)):=rfl
theorem eB {α:Type} (f:α->Bool) (as:List α):boolsOf (as.map fun a=>.bl (f a))=some (as.map f):= by
 induction as with
 | nil=>rfl
 | cons a r ih=>simp [boolsOf,ih]
theorem atI_nat {α:Type} (xs:List α) (i:Nat) (h:i < xs.length):jM xs (i:Int)=some xs[i]:= by
 have h1:(i:Int) < xs.length:=by omega
 simp [jM,wu,h1,h]
theorem lj {hs:List (List Int)} {i:Nat} (h:i < hs.length):jk (.tup (hs.map hD)) (.int (i:Int))=some (hD (G hs i)):= by
 show jM _ _=_
 rw [atI_nat _ _ (by simpa using h)]
 simp [G,h]
theorem cK (m:Int) (hs:List (List Int)):jk (bt m hs) (.int 1)=some (.tup (hs.map hD)):=rfl
theorem eY (m:Int) (hs:List (List Int)):jk (bt m hs) (.int 0)=some (.int m):=rfl
theorem jN (neg:Bool) (a b:Int):jS neg (.int a) (.int b)=some (.bl (if neg then !decide (a=b) else decide (a=b))):= by
 simp [jS,g6,dA,flat,gZ]
theorem eU (neg:Bool) (a b:Nat):jS neg (.int (a:Int)) (.int (b:Int))=some (.bl (if neg then !decide (a=b) else decide (a=b))):= by
 rw [jN]
 simp only [Int.natCast_inj,show ((a:Int)=(b:Int))=(a=b) from propext Int.ofNat_inj]
theorem jJ (neg:Bool) (xs:List D):jS neg (.lst xs) (.lst [])=some (.bl (if neg then !xs.isEmpty else xs.isEmpty)):= by
 cases xs <;> simp [jS,g6,dz,dz.go]
theorem kA (n:Nat):bZ 0 n=lD (List.range n):= by
 simp [bZ,lD]
theorem fB (n i:Nat) (h:i < (bZ 0 n).length):(bZ 0 n)[i]=.int (i:Int):=by simp [bZ]
variable {hs:List (List Int)} {ls:List Nat} {x:D}
theorem nv {i j:Int} (h:-(2 ^ 64) < j) (h2:j < 2 ^ 64):ou (.int i) (.int j)=some (.int (i * j)):= by
 show (if ((decide (-(2 ^ 64) < i) && decide (i < 2 ^ 64)) || (decide (-(2 ^ 64) < j) && decide (j < 2 ^ 64)))=true then _ else _)=_
 rw [if_pos (by rw [decide_eq_true h,decide_eq_true h2];simp)]
theorem rn (ns:List Int) (k:Nat):∃c:Int,cg yV sV [.lst (ns.map .int),.int k]=some (.int c):= by
 have:∃d,cg yV sV [.lst (ns.map .int),.int k]=some d∧∃c,d=.int c:= by
  apply Bw
  show Ok sV [.pu (.lst (ns.map .int)),.pu (.int k)] _
  dsimp only [sV,qf]
  simp [fk,Gk,dE]
  by_cases h:k < ns.length
  .have e:jk (.lst (ns.map .int)) (.int (k:Int))=some (.int ns[k]):= by
    show jM _ _=_
    rw [atI_nat _ _ (by simpa using h)]
    simp
   simp [h,e]
  .simp [h,ou,gP,dE];omega
 obtain ⟨d,e,c,rfl⟩:=this
 exact ⟨c,e⟩
theorem m_law_take (n j:Int) (h:0 < j) (h2:j < 1073741824):gN ma kj [.int n] [.int j]=some (.int (n % j),[.int (n / j)]):= by
 have:∃d xs',gN ma kj [.int n] [.int j]=some (d,xs')∧(d=.int (n % j)∧xs' = [.int (n / j)]):= by
  apply iK
  show Ok kj [.ow true [.int n],.pu (.int j),.un] _
  dsimp only [kj,iP]
  simp [A8,Gh,dE,jk,jM,wu,h,h2]
 obtain ⟨d,xs',e,rfl,rfl⟩:=this
 exact e
theorem vn (ns:List Int) (k:Nat):∃n:Int,i_ xJ tW [.lst (ns.map .int),.int k]=some [.int n]:= by
 obtain ⟨c,ec⟩:=rn ns k
 have:∃d,i_ xJ tW [.lst (ns.map .int),.int k]=some d∧∃c,d=[.int c]:= by
  apply Cg
  show Ok tW [.pu (.lst (ns.map .int)),.pu (.int k),.un,.un,.un,.un] _
  dsimp only [tW,qN]
  simp [dH,ec,A8,Gh,dE,dA,flat,gZ]
  by_cases h:c % 2=0
  .simp [h]
  .simp [h,i5,dw]
   refine qX (bZ 0 24) (fun _ δ=>∃a b x,δ=[.pu (.lst (ns.map .int)),.pu (.int k),.pu (.int c),.pu (.int a),.pu (.int b),x]) ?_ (fun i hk δ hI=>?_) (fun δ hI=>?_)
   .exact ⟨_,_,_,rfl⟩
   .obtain ⟨a,b,x,rfl⟩:=hI
    have hk':i < 24:=by simpa [bZ] using hk
    have e2:ou (.int (7 * (i:Int))) (.int (i:Int))=some (.int (7 * (i:Int) * (i:Int))):=nv (by omega) (by omega)
    have e3:∀z:Int,ou (.int z) (.int 48271)=some (.int (z * 48271)):=fun z=>nv (by omega) (by omega)
    have e4:∀z:Int,ou (.int z) (.int 2147483647)=some (.int (z * 2147483647)):=fun z=>nv (by omega) (by omega)
    have e5:ou (.int 7) (.int (i:Int))=some (.int (7 * (i:Int))):=nv (by omega) (by omega)
    have e6:ou (.int 11) (.int (k:Int))=some (.int (11 * (k:Int))):=by simp [ou,dE]
    rw [fB]
    simp [e2,e3,e4,e5,e6,gP,dE]
   .obtain ⟨a,b,x,rfl⟩:=hI
    simp
 obtain ⟨d,e,c,rfl⟩:=this
 exact ⟨c,e⟩
theorem oX (xs:List D):iu xs xs=xs.map fun x=>.tup [x,x]:= by
 induction xs with
 | nil=>rfl
 | cons a r ih=>simp [iu,ih]
variable {hs:List (List Int)} {ls:List Nat}
variable {hs:List (List Int)} {ls:List Nat}
variable {hs:List (List Int)} {ls:List Nat}
variable {hs:List (List Int)} {ls:List Nat} {x:D}
noncomputable def jy (m:Int) (h:List Int):Prop:=h ≠ []∧h.Pairwise (· < ·)∧∀c ∈ h,0 ≤ c∧c < m
theorem ua:∀(l:List Int) (lo hi:Int),l.Pairwise (· < ·)->(∀y ∈ l,lo ≤ y∧y < hi)->lo ≤ hi->(l.length:Int) ≤ hi - lo
 | [],lo,hi,_,_,h=>by simp;omega
 | z :: t,lo,hi,hp,hb,h=>by
  rw [List.pairwise_cons] at hp
  have hz:=hb z List.mem_cons_self
  have:=ua t (z + 1) hi hp.2 (fun y hy=>⟨by have:=hp.1 y hy;omega,(hb y (List.mem_cons_of_mem _ hy)).2⟩) (by omega)
  rw [List.length_cons];omega
theorem jy.len {m:Int} {h:List Int} (H:jy m h) (h1:1 ≤ m) (hm:m ≤ 7):h.length ≤ 7:= by
 have:=ua h 0 m H.2.1 H.2.2 (by omega)
 omega
theorem dI (a:Int):∀l:List Int,a ∈ fX l ↔ a ∈ l
 | []=>by simp [fX]
 | x :: r=>by
  unfold fX
  split
  .rename_i h
   rw [dI a r,List.mem_cons]
   constructor
   .exact .inr
   .rintro (rfl | h')
    .exact (dI a r).mp h
    .exact h'
  .rw [List.mem_cons,List.mem_cons,dI a r]
theorem dX:∀l:List Int,(fX l).Nodup
 | []=>by simp [fX]
 | x :: r=>by
  unfold fX
  split
  .exact dX r
  .rename_i h
   exact List.nodup_cons.mpr ⟨h,dX r⟩
theorem qv {l:List Int} (h:l.Nodup):(b_ l).Pairwise (· < ·):= by
 refine ((kI l).and ((dR l).nodup_iff.mpr h)).imp fun {a b} h=>?_
 have:=h.1
 have:=h.2
 omega
theorem mF {a:Int} {l:List Int}:a ∈ b_ l ↔ a ∈ l:=(dR l).mem_iff
theorem gJ (h:List Int):fC (h.map .int)=some h:= by
 induction h with
 | nil=>rfl
 | cons a r ih=>simp [fC,ih]
theorem ti (h:List Int):(fX h).length ≤ h.length:= by
 induction h with
 | nil=>simp [fX]
 | cons a r ih=>unfold fX;split <;> simp <;> omega
theorem iX (h:List Int):(b_ h).length=h.length:=(dR h).length_eq
theorem Dg (neg:Bool) (xs:List D):G8 neg (.lst xs) (.lst [])=some (.bl (if neg then !xs.isEmpty else xs.isEmpty)):=jJ neg xs
theorem o_ (hs:List (List Int)) (n:Int) (hp:0 < hs.length):∃h ∈ hs,jk (.lst (hs.map hD)) (.int (n % (hs.length:Int)))=some (hD h):= by
 have h1:=Int.emod_nonneg n (show (hs.length:Int) ≠ 0 by omega)
 have h2:=Int.emod_lt_of_pos n (show (0:Int) < hs.length by omega)
 obtain ⟨j,hj⟩:∃j:Nat,n % (hs.length:Int)=(j:Int):=⟨(n % (hs.length:Int)).toNat,by omega⟩
 have hlt:j < hs.length:=by omega
 refine ⟨hs[j],List.getElem_mem hlt,?_⟩
 rw [hj]
 show jM _ _=_
 rw [atI_nat _ _ (by simpa using hlt)]
 simp
theorem jd {α β:Type} (f:α->β):∀(l:List α) (j:Nat),(l.map f).eraseIdx j=(l.eraseIdx j).map f
 | [],_=>rfl
 | _ :: _,0=>rfl
 | a :: r,j + 1=>by
  show f a :: (r.map f).eraseIdx j=f a :: (r.eraseIdx j).map f
  rw [jd f r j]
theorem cq (xs:List D):d7 [.lst xs]=some (.tup xs):=rfl
variable {hs:List (List Int)} {ls:List Nat}
variable {hs:List (List Int)} {ls:List Nat}
variable {hs:List (List Int)} {ls:List Nat}
end K02
namespace K02
open PySem L2 Jt
noncomputable def LQ (d:D) (xs:List D):Prop:=∃(m:Int) (hs:List (List Int)) (n:Int),d=bt m hs∧xs=[.int n]∧1 ≤ hs.length∧hs.length ≤ 6∧(1 ≤ m∧m ≤ 7)∧∀h ∈ hs,jy m h
noncomputable def K9:Fl->DS->Prop:=fun fl δ=>∃d xs',fl=.rt d∧δ[0]? = some (.ow true xs')∧LQ d xs'
noncomputable def P2 (M Z k:Nat) (way:Int) (hs:List (List Int)) (δ:DS):Prop:=∃(n:Int) (x:D) (cs:List Int) (x7 x8:Jt.Slot),δ=[.ow true [.int n],.pu (.int M),.pu (.int way),.pu (.int Z),.ow false (hs.map hD),.pu (.int k),.pu x,x7,x8,.un,.un]∧eN x=some (cs.map .int)∧cs.length ≤ 14∧∀c ∈ cs,0 ≤ c∧c < (M:Int)
noncomputable def P4 (M Z k:Nat) (way:Int) (δ:DS):Prop:=∃(n:Int) (hs:List (List Int)) (x5 x6 x7 x8:Jt.Slot),δ=[.ow true [.int n],.pu (.int M),.pu (.int way),.pu (.int Z),.ow false (hs.map hD),x5,x6,x7,x8,.un,.un]∧hs.length=k∧∀h ∈ hs,jy M h
theorem om {ta tb:Jt.M Bool} {δ:DS} {P:Bool->DS->Prop} {b1:Bool} (h1:Ok ta δ fun b δ1=>b=b1∧δ1=δ) (hf:b1=false->P false δ) (ht:b1=true->Ok tb δ P):Ok (rX ta tb) δ P:= by
 rw [tK]
 refine h1.mono fun b δ1 h=>?_
 obtain ⟨rfl,rfl⟩:=h
 cases b
 .exact hf rfl
 .exact ht rfl
theorem ue {ta tb:Jt.M Bool} {δ:DS} {b1 b2:Bool} (h1:Ok ta δ fun b δ1=>b=b1∧δ1=δ) (h2:Ok tb δ fun b δ1=>b=b2∧δ1=δ):Ok (rX ta tb) δ fun b δ1=>b=(b1 && b2)∧δ1=δ :=
 om h1 (fun e=>by subst e;exact ⟨rfl,rfl⟩) (fun e=>by subst e;exact h2)
theorem kY (a b:Int):dA false (.int a) (.int b)=some (.bl (decide (a=b))):=eR false a b
theorem yK (a b:Int):Gk (.int a) (.int b)=some (.bl (decide (a < b))):=by simp [Gk,dE]
theorem ja (a b:Int):J0 (.int a) (.int b)=some (.bl (decide (a > b))):=by simp [J0,dE]
theorem fu (a b:Int):gP (.int a) (.int b)=some (.int (a + b)):=by simp [gP,dE]
theorem vj {δ:DS} {d:D}:Ok (pure d:Jt.M D) δ fun d' δ1=>d' = d∧δ1=δ:=bB.mpr ⟨rfl,rfl⟩
theorem El {δ:DS} {i k:Nat} {b:Bool} {xs:List D} (h:δ[i]? = some (.ow b xs)) (hl:xs.length=k):Ok (qd i) δ fun d δ1=>d=.int (k:Int)∧δ1=δ:=qD.mpr ⟨b,xs,h,by rw [hl],rfl⟩
theorem je {δ:DS} {op:D->D->Option D} {i:Nat} {c d:D} {b:Bool} (h:δ[i]? = some (.pu d)) (e:op d c=some (.bl b)):Ok (m2 op (ck i) (pure c) >>= lB) δ fun b' δ1=>b' = b∧δ1=δ :=
 bj.mpr (ij.mpr (eP.mpr ⟨d,h,bB.mpr (dF e (rK.mpr ⟨b,rfl,rfl,rfl⟩))⟩))
theorem gI {δ:DS} {i:Nat} {n j:Int} {b:Bool} {fj:Jt.M D} {Q:D->DS->Prop} (h0:δ[i]? = some (.ow b [.int n])) (hf:Ok fj δ fun d δ1=>d=.int j∧δ1=δ) (hj:0 < j) (hj2:j < 1073741824) (q:Q (.int (n % j)) (δ.set i (.ow b [.int (n / j)]))):Ok (do let _ <- dC i;l3 i 2 (gN ma kj) (bw fj (pure []))) δ Q:= by
 refine bj.mpr (eW.mpr ⟨b,_,h0,uj.mpr (cG.mpr (hf.mono fun d δ1 h=>?_))⟩)
 obtain ⟨rfl,rfl⟩:=h
 exact bB.mpr ⟨b,_,h0,rfl,_,m_law_take n j hj hj2,q⟩
theorem yt {δ:DS} {i:Nat} {n j:Int} {b:Bool} {fj:Jt.M D} {Q:Bool->DS->Prop} (h0:δ[i]? = some (.ow b [.int n])) (hf:Ok fj δ fun d δ1=>d=.int j∧δ1=δ) (hj:0 < j) (hj2:j < 1073741824) (q:Q (decide (n % j=0)) (δ.set i (.ow b [.int (n / j)]))):Ok (m2 (dA false) (do let _ <- dC i;l3 i 2 (gN ma kj) (bw fj (pure []))) (pure (.int 0)) >>= lB) δ Q :=
 bj.mpr (ij.mpr (gI h0 hf hj hj2 (bB.mpr (dF (kY _ _) (rK.mpr ⟨_,rfl,q⟩)))))
theorem Es {δ:DS} {i:Nat} {b:Bool} {hs:List (List Int)} (h:δ[i]? = some (.ow b (hs.map hD))):Ok ((Aj (G8 true) (wU i) (do let x <- (do let xs <- (qo (pure []));pure (D.lst xs));pure (Hn.th x))) >>= lB) δ fun b' δ1=>b' = decide (hs ≠ [])∧δ1=δ:= by
 have e:G8 true (.lst (hs.map hD)) (.lst [])=some (.bl (decide (hs ≠ []))):= by
  rw [Dg]
  cases hs <;> rfl
 generalize decide (hs ≠ [])=c at *
 generalize hs.map hD=ys at *
 cases b <;> simp [h,e]
theorem hU (n0:Int):∃d xs',gN lJ Fu [.int n0] []=some (d,xs')∧LQ d xs':= by
 apply iK
 show Ok Fu [.ow true [.int n0],.un,.un,.un,.un,.un,.un,.un,.un,.un,.un] K9
 dsimp only [Fu,yE]
 refine cX (fun δ=>∃n many:Int,δ=[.ow true [.int n],.pu (.int many),.un,.un,.un,.un,.un,.un,.un,.un,.un]∧1 ≤ many∧many ≤ 7) ?_ ?_
 .exact eF.mpr (ij.mpr (bB.mpr (gI rfl vj (by decide) (by decide) (dF (fu _ _) ⟨Nat.lt_of_sub_pos (Nat.zero_lt_succ 9),rfl,_,_,rfl,by omega,by omega⟩))))
 rintro _ ⟨n,many,rfl,hm1,hm2⟩
 refine cX (fun δ=>∃n way:Int,δ=[.ow true [.int n],.pu (.int many),.pu (.int way),.un,.un,.un,.un,.un,.un,.un,.un]) ?_ ?_
 .exact eF.mpr (gI rfl vj (by decide) (by decide) ⟨Nat.lt_of_sub_pos (Nat.zero_lt_succ 8),rfl,_,_,rfl⟩)
 rintro _ ⟨n,way,rfl⟩
 refine cX (fun δ=>∃n size:Int,δ=[.ow true [.int n],.pu (.int many),.pu (.int way),.pu (.int size),.un,.un,.un,.un,.un,.un,.un]∧1 ≤ size∧size ≤ 6) ?_ ?_
 .exact eF.mpr (ij.mpr (bB.mpr (gI rfl vj (by decide) (by decide) (dF (fu _ _) ⟨Nat.lt_of_sub_pos (Nat.zero_lt_succ 7),rfl,_,_,rfl,by omega,by omega⟩))))
 rintro _ ⟨n,size,rfl,hs1,hs2⟩
 refine uo (decide (way=4) && decide (many > 2)) (ue (je rfl (kY _ _)) (je rfl (ja _ _))) (fun hb=>?_) (fun hb=>?_)
 .obtain ⟨h4,hm⟩:=Bool.and_eq_true_iff.mp hb
  obtain rfl:=of_decide_eq_true h4
  have hm:=of_decide_eq_true hm
  obtain ⟨N,hN,hN1,hN2⟩:∃N:Nat,(if 6 < many then 6 else many)=(N:Int)∧3 ≤ N∧N ≤ 6:= by
   refine ⟨(if 6 < many then 6 else many).toNat,?_,?_,?_⟩ <;> split <;> omega
  simp [pZ,hN]
  refine bx (List.range N) (fun (k:Nat)=>.int (k:Int)) (fun k=>some (hD (b_ [(k:Int),((k:Int) + 1) % (N:Int)]))) rfl ?_ (by simp;omega) (fun k _=>?_) ?_
  .have:dw N=true:=by simp [dw];omega
   simp [i5,this,bZ]
  .have:0 < N:=by omega
   simp [gP,A8,dE,eN,sortI,fC,this,d7,hD]
  .simp [d7,eN,List.filterMap_eq_map]
   refine ⟨_,_,rfl,rfl,many,(List.range N).map fun (k:Nat)=>b_ [(k:Int),((k:Int) + 1) % (N:Int)],n,by simp [bt],rfl,by simp;omega,by simp;omega,⟨hm1,hm2⟩,?_⟩
   intro h hh
   obtain ⟨k,hk,rfl⟩:=List.mem_map.mp hh
   have hk':=List.mem_range.mp hk
   have hN':(N:Int) ≤ many:=by rw [<- hN];split <;> omega
   have g1:=Int.emod_nonneg ((k:Int) + 1) (show (N:Int) ≠ 0 by omega)
   have g2:=Int.emod_lt_of_pos ((k:Int) + 1) (show (0:Int) < N by omega)
   have ne:(k:Int) ≠ ((k:Int) + 1) % (N:Int):= by
    by_cases e:k + 1=N
    .have:((k:Int) + 1) % (N:Int)=0:=by rw [show (k:Int) + 1=(N:Int) by omega];exact Int.emod_self
     omega
    .rw [Int.emod_eq_of_lt (by omega) (by omega)];omega
   refine ⟨fun z=>?_,qv (by simp [ne]),fun c hc=>?_⟩
   .have:=iX [(k:Int),((k:Int) + 1) % (N:Int)]
    rw [z] at this
    simp at this
   .rw [mF] at hc
    simp only [List.mem_cons,List.not_mem_nil,or_false] at hc
    rcases hc with rfl | rfl <;> omega
 refine uo (decide (way=5) && decide (many > 2)) (ue (je rfl (kY _ _)) (je rfl (ja _ _))) (fun hb=>?_) (fun hb=>?_)
 .obtain ⟨h4,hm⟩:=Bool.and_eq_true_iff.mp hb
  obtain rfl:=of_decide_eq_true h4
  have hm:=of_decide_eq_true hm
  obtain ⟨N,hN,hN1,hN2⟩:∃N:Nat,(if 6 < many then 6 else many)=(N:Int)∧3 ≤ N∧N ≤ 6:= by
   refine ⟨(if 6 < many then 6 else many).toNat,?_,?_,?_⟩ <;> split <;> omega
  have hp:(0:Int) < N - 2:=by omega
  have hq:(N:Int) - 2 < 1073741824:=by omega
  obtain ⟨S,hS,hS1,hS2⟩:∃S:Nat,3 + n % ((N:Int) - 2)=(S:Int)∧3 ≤ S∧S ≤ 6:= by
   have h1:=Int.emod_nonneg n (show (N:Int) - 2 ≠ 0 by omega)
   have h2:=Int.emod_lt_of_pos n hp
   exact ⟨(3 + n % ((N:Int) - 2)).toNat,by omega,by omega,by omega⟩
  simp [-Prod.exists,pZ,hN,Iv,gP,dE,m_law_take _ _ hp hq,hS]
  have hsm:dw S=true:=by simp [dw];omega
  refine bx (List.range S) (fun (k:Nat)=>.int (k:Int)) (fun k=>some (hD (((List.range S).filter fun i=>decide (i ≠ k)).map fun (i:Nat)=>(i:Int)))) rfl ?_ (by simp;omega) (fun k _=>?_) ?_
  .simp [i5,hsm,bZ]
  .simp
   refine bx (List.range S) (fun (k:Nat)=>.int (k:Int)) (fun i=>if decide (i ≠ k)=true then some (.int (i:Int)) else none) rfl ?_ (by simp;omega) (fun i _=>?_) ?_
   .simp [i5,hsm,bZ]
   .by_cases e:i=k <;> simp [eU,e]
   .rw [bQ]
    simp [d7,eN,hD]
  .simp [d7,eN,List.filterMap_eq_map]
   refine ⟨_,_,rfl,rfl,many,(List.range S).map fun (k:Nat)=>(((List.range S).filter fun i=>decide (i ≠ k)).map fun (i:Nat)=>(i:Int)),n / ((N:Int) - 2),by simp [bt],rfl,by simp;omega,by simp;omega,⟨hm1,hm2⟩,?_⟩
   intro h hh
   obtain ⟨k,hk,rfl⟩:=List.mem_map.mp hh
   have hN':(N:Int) ≤ many:=by rw [<- hN];split <;> omega
   have hSN:(S:Int) ≤ N:= by
    have h2:=Int.emod_lt_of_pos n hp
    omega
   refine ⟨fun z=>?_,?_,fun c hc=>?_⟩
   .have:(if k=0 then 1 else 0) ∈ (List.range S).filter fun i=>decide (i ≠ k):=List.mem_filter.mpr ⟨List.mem_range.mpr (by split <;> omega),by simp;split <;> omega⟩
    rw [List.map_eq_nil_iff] at z
    rw [z] at this
    cases this
   .rw [List.pairwise_map]
    exact ((List.pairwise_lt_range).filter _).imp fun {a b} (q:a < b)=>by show (a:Int) < (b:Int);omega
   .obtain ⟨i,hi,rfl⟩:=List.mem_map.mp hc
    have:=List.mem_range.mp (List.mem_filter.mp hi).1
    omega
 obtain ⟨M,rfl⟩:∃M:Nat,many=(M:Int):=⟨many.toNat,by omega⟩
 obtain ⟨Z,rfl⟩:∃Z:Nat,size=(Z:Int):=⟨size.toNat,by omega⟩
 have hZ1:1 ≤ Z:=by omega
 have hZ2:Z ≤ 6:=by omega
 have hM1:1 ≤ M:=by omega
 have hM2:M ≤ 7:=by omega
 have sZ:dw Z=true:=by simp [dw];omega
 have sM:dw M=true:=by simp [dw];omega
 clear hb hs1 hs2
 refine cX (fun δ=>δ=[.ow true [.int n],.pu (.int M),.pu (.int way),.pu (.int Z),.ow false [],.un,.un,.un,.un,.un,.un]) (by simp) ?_
 rintro _ rfl
 refine cX (fun δ=>∃(n:Int) (hs:List (List Int)) (x5 x6 x7 x8:Jt.Slot),δ=[.ow true [.int n],.pu (.int M),.pu (.int way),.pu (.int Z),.ow false (hs.map hD),x5,x6,x7,x8,.un,.un]∧hs.length=Z∧∀h ∈ hs,jy M h) ?_ ?_
 .refine uC (bZ 0 Z) (fun k δ=>P4 M Z k way δ) ?_ ?_ ?_ ?_
  .simp [i5,sZ]
  .exact ⟨n,[],.un,.un,.un,.un,rfl,rfl,by simp⟩
  .rintro k hk _ ⟨n,hs,x5,x6,x7,x8,rfl,hlen,hw⟩
   have hk':k < Z:=by simpa [bZ] using hk
   rw [fB,dZ]
   refine ⟨by simp,?_⟩
   simp only [List.set_cons_succ,List.set_cons_zero]
   refine cX (fun δ=>∃(n:Int) (cs:List Int),δ=[.ow true [.int n],.pu (.int M),.pu (.int way),.pu (.int Z),.ow false (hs.map hD),.pu (.int k),.pu (.lst (cs.map .int)),x7,x8,.un,.un]∧cs.length ≤ 7∧∀c ∈ cs,0 ≤ c∧c < (M:Int)) ?_ ?_
   .simp only [eF,bj,bB]
    refine eS (bZ 0 M) (fun _ acc δ=>∃(n:Int) (cs:List Int),acc=cs.map .int∧δ=[.ow true [.int n],.pu (.int M),.pu (.int way),.pu (.int Z),.ow false (hs.map hD),.pu (.int k),x6,x7,x8,.un,.un]∧∀c ∈ cs,0 ≤ c∧c < (M:Int)) rfl ?_ (by simp [bZ];omega) ⟨n,[],rfl,rfl,by simp⟩ ?_ ?_
    .simp [i5,sM]
    .rintro j hj acc _ ha hl ⟨n,cs,rfl,rfl,hcM⟩
     have hjM:j < M:=by simpa [bZ] using hj
     rw [fB]
     refine eI.mpr (dZ.mpr ⟨Nat.le_refl 12,yt rfl vj (by decide) (by decide) ?_⟩)
     by_cases q:n % 3=0
     .rw [decide_eq_true q,if_pos rfl]
      refine eP.mpr ⟨_,rfl,rfl,_,cs ++ [(j:Int)],by rw [List.map_append];rfl,rfl,fun c hc=>?_⟩
      rcases List.mem_append.mp hc with z | z
      .exact hcM c z
      .rw [List.mem_singleton.mp z];omega
     .rw [decide_eq_false q,if_neg Bool.false_ne_true]
      exact ⟨rfl,_,cs,List.append_nil _,rfl,hcM⟩
    .rintro xs _ hx hl ⟨n,cs,rfl,rfl,hcM⟩
     have:cs.length ≤ 7:=by simp [bZ] at hx;omega
     exact ⟨by simp,trivial,n,cs,rfl,this,hcM⟩
   rintro _ ⟨n,cs,rfl,hcs,hcM⟩
   refine cX (P2 M Z k way hs) ?_ ?_
   .refine Du (fun b δ=>δ=[.ow true [.int n],.pu (.int M),.pu (.int way),.pu (.int Z),.ow false (hs.map hD),.pu (.int k),.pu (.lst (cs.map .int)),x7,x8,.un,.un]∧(b=true->hs ≠ [])) ?_ ?_ ?_
    .exact om (je rfl (yK _ _)) (fun _=>⟨rfl,fun e=>by cases e⟩) fun _=>(Es rfl).mono fun b δ1 h=>⟨h.2,fun e=>of_decide_eq_true (h.1.symm.trans e)⟩
    .rintro _ ⟨rfl,hne⟩
     have hpos:0 < hs.length:=List.length_pos_iff.mpr (hne rfl)
     obtain ⟨h,hh,eh⟩:=o_ hs n hpos
     have et:=m_law_take n hs.length (by omega) (by omega)
     refine cX (fun δ=>∃n:Int,δ=[.ow true [.int n],.pu (.int M),.pu (.int way),.pu (.int Z),.ow false (hs.map hD),.pu (.int k),.pu (.lst (cs.map .int)),.pu (hD h),x8,.un,.un]) ?_ ?_
     .exact eF.mpr (oh.mpr ⟨⟨_,_,rfl⟩,gI rfl (El rfl (List.length_map ..)) (by omega) (by omega) ⟨_,_,rfl,dF eh ⟨Nat.lt_of_sub_pos (Nat.zero_lt_succ 3),rfl,_,rfl⟩⟩⟩)
     rintro _ ⟨n,rfl⟩
     refine cX (fun δ=>∃ds:List Int,δ=[.ow true [.int n],.pu (.int M),.pu (.int way),.pu (.int Z),.ow false (hs.map hD),.pu (.int k),.pu (.lst (cs.map .int)),.pu (hD h),.pu (.lst (ds.map .int)),.un,.un]∧ds.length ≤ 7∧∀c ∈ ds,0 ≤ c∧c < (M:Int)) ?_ ?_
     .simp only [eF,bj,bB]
      refine bx cs .int (fun c=>if (hs.filter fun h=>decide (c ∈ h)).isEmpty=true then some (.int c) else none) rfl ?_ (by omega) (fun c hc=>?_) ?_
      .simp [d9]
      .simp
       refine x_ (i:=4) (b:=false) hs hD (fun h=>if decide (c ∈ h)=true then some (hD h) else none) rfl rfl ?_ (by omega) (fun h hh=>?_) ?_
       .simp
       .by_cases q:c ∈ h <;> simp [uD,q]
       .rw [bQ]
        cases q:(hs.filter fun h=>decide (c ∈ h)) with
        | nil=>
         have q':=List.filter_eq_nil_iff.mp q
         simpa [jJ] using q'
        | cons a r=>
         have q':a ∈ hs.filter fun h=>decide (c ∈ h):=by rw [q];exact List.mem_cons_self
         simp at q'
         simp [jJ]
         exact ⟨a,q'⟩
      .rw [bQ]
       refine ⟨by simp,trivial,(cs.filter fun c=>(hs.filter fun h=>decide (c ∈ h)).isEmpty),rfl,?_⟩
       have:=List.length_filter_le (fun c=>(hs.filter fun h=>decide (c ∈ h)).isEmpty) cs
       exact ⟨by omega,fun c hc=>hcM c (List.mem_filter.mp hc).1⟩
     rintro _ ⟨ds,rfl,hds,hdM⟩
     simp
     refine eS (h.map .int) (fun _ acc δ=>∃(n:Int) (cs':List Int),acc=cs'.map .int∧δ=[.ow true [.int n],.pu (.int M),.pu (.int way),.pu (.int Z),.ow false (hs.map hD),.pu (.int k),.pu (.lst (cs.map .int)),.pu (hD h),.pu (.lst (ds.map .int)),.un,.un]∧∀c ∈ cs',0 ≤ c∧c < (M:Int)) rfl ?_ (by have:=(hw h hh).len (by omega) (by omega);simp;omega) ⟨n,[],rfl,rfl,by simp⟩ ?_ ?_
     .simp [j1]
     .rintro j hj acc _ ha hl ⟨n,cs',rfl,rfl,hc'⟩
      have hj':j < h.length:=by simpa using hj
      rw [List.getElem_map]
      refine eI.mpr (dZ.mpr ⟨Nat.le_refl 12,yt rfl vj (by decide) (by decide) ?_⟩)
      by_cases q:n % 2=0
      .rw [decide_eq_true q,if_pos rfl]
       refine eP.mpr ⟨_,rfl,rfl,_,cs' ++ [h[j]],by rw [List.map_append];rfl,rfl,fun c hc=>?_⟩
       rcases List.mem_append.mp hc with z | z
       .exact hc' c z
       .rw [List.mem_singleton.mp z];exact (hw h hh).2.2 _ (List.getElem_mem hj')
      .rw [decide_eq_false q,if_neg Bool.false_ne_true]
       exact ⟨rfl,_,cs',List.append_nil _,rfl,hc'⟩
     .rintro xs _ hx hl ⟨n,cs',rfl,rfl,hc'⟩
      have hb:=(hw h hh).len (by omega) (by omega)
      have hc:cs'.length ≤ h.length:=by simpa using hx
      have hsm:ds.length + cs'.length ≤ 100000:=by omega
      simp [wj,C8,hsm]
      refine ⟨_,_,ds ++ cs',_,_,rfl,by simp [eN],by simp;omega,fun c hc=>?_⟩
      rcases List.mem_append.mp hc with z | z
      .exact hdM c z
      .exact hc' c z
    .rintro _ ⟨rfl,hne⟩
     simp
     exact ⟨_,_,cs,_,_,rfl,by simp [eN],by omega,hcM⟩
   rintro _ ⟨n,x,cs,x7,x8,rfl,hx,hcs,hcM⟩
   refine cX (P2 M Z k way hs) ?_ ?_
   .refine Du (fun b δ=>(∃n:Int,δ=[.ow true [.int n],.pu (.int M),.pu (.int way),.pu (.int Z),.ow false (hs.map hD),.pu (.int k),.pu x,x7,x8,.un,.un])∧(b=true->hs ≠ [])) ?_ ?_ ?_
    .exact om (je rfl (kY _ _)) (fun _=>⟨⟨_,rfl⟩,fun e=>by cases e⟩) fun _=>om (Es rfl) (fun _=>⟨⟨_,rfl⟩,fun e=>by cases e⟩) fun e=>yt rfl vj (by decide) (by decide) ⟨⟨_,rfl⟩,fun _=>of_decide_eq_true e⟩
    .rintro _ ⟨⟨n,rfl⟩,hne⟩
     have hpos:0 < hs.length:=List.length_pos_iff.mpr (hne rfl)
     obtain ⟨h,hh,eh⟩:=o_ hs n hpos
     have et:=m_law_take n hs.length (by omega) (by omega)
     have:=(hw h hh).len (by omega) (by omega)
     exact eF.mpr (oh.mpr ⟨⟨_,_,rfl⟩,gI rfl (El rfl (List.length_map ..)) (by omega) (by omega) ⟨_,_,rfl,dF eh ⟨Nat.lt_of_sub_pos (Nat.zero_lt_succ 4),rfl,_,_,h,_,_,rfl,rfl,by omega,(hw h hh).2.2⟩⟩⟩)
    .rintro _ ⟨⟨n,rfl⟩,hne⟩
     simp
     exact ⟨_,_,cs,_,_,rfl,hx,hcs,hcM⟩
   rintro _ ⟨n,x,cs,x7,x8,rfl,hx,hcs,hcM⟩
   refine kM ⟨_,_,rfl⟩ ?_
   have hc64:cs.length < 64:=by omega
   have hl1:=ti cs
   have hl2:=iX (fX cs)
   have eM:=m_law_take n M (by omega) (by omega)
   have hl3:hs.length ≤ 100000:=by omega
   by_cases q:b_ (fX cs)=[]
   .simp [-Prod.exists,hx,jQ,gJ,hc64,cq,jc,q,eM,hl3]
    refine ⟨_,hs ++ [[n % (M:Int)]],_,_,_,_,by simp [hD];exact ⟨rfl,rfl,rfl,rfl,rfl⟩,by simp [hlen],?_⟩
    intro h hh
    rcases List.mem_append.mp hh with hh | hh
    .exact hw h hh
    .rw [List.mem_singleton.mp hh]
     have g1:=Int.emod_nonneg n (show (M:Int) ≠ 0 by omega)
     have g2:=Int.emod_lt_of_pos n (show (0:Int) < M by omega)
     exact ⟨by simp,by simp,fun c hc=>by rw [List.mem_singleton.mp hc];exact ⟨g1,g2⟩⟩
   .simp [-Prod.exists,hx,jQ,gJ,hc64,cq,jc,q,hl3]
    refine ⟨_,hs ++ [b_ (fX cs)],_,_,_,_,by simp [hD];exact ⟨rfl,rfl,rfl,rfl,rfl⟩,by simp [hlen],?_⟩
    intro h hh
    rcases List.mem_append.mp hh with hh | hh
    .exact hw h hh
    .rw [List.mem_singleton.mp hh]
     exact ⟨q,qv (dX cs),fun c hc=>hcM c ((dI c cs).mp (mF.mp hc))⟩
  .rintro _ ⟨n,hs,x5,x6,x7,x8,rfl,hlen,hw⟩
   have:(bZ 0 Z).length=Z:=by simp [bZ]
   rw [this] at hlen
   exact ⟨rfl,n,hs,x5,x6,x7,x8,rfl,hlen,hw⟩
 rintro _ ⟨n,hs,x5,x6,x7,x8,rfl,hlen,hw⟩
 refine cX (fun δ=>δ=[.ow true [.int n],.pu (.int M),.pu (.int way),.pu (.int Z),.ow false (hs.map hD),x5,x6,x7,x8,.ow false (lD (List.range Z)),.un]) ?_ ?_
 .have:(Z:Int) < 100000:=by omega
  simp [nu,this,kA]
 rintro _ rfl
 refine cX (fun δ=>∃(n:Int) (ls os:List Nat),δ=[.ow true [.int n],.pu (.int M),.pu (.int way),.pu (.int Z),.ow false (hs.map hD),x5,x6,x7,x8,.ow false (lD ls),.pu (.lst (lD os))]∧os.length=Z∧∀o ∈ os,o < Z) ?_ ?_
 .simp only [eF,bj,bB]
  refine eS (bZ 0 Z) (fun k acc δ=>∃(n:Int) (ls os:List Nat),acc=lD os∧δ=[.ow true [.int n],.pu (.int M),.pu (.int way),.pu (.int Z),.ow false (hs.map hD),x5,x6,x7,x8,.ow false (lD ls),.un]∧os.length=k∧ls.length + k=Z∧(∀o ∈ os,o < Z)∧∀o ∈ ls,o < Z) rfl ?_ (by simp [bZ];omega) ⟨n,List.range Z,[],rfl,rfl,rfl,by simp,by simp,by simp⟩ ?_ ?_
  .simp [i5,sZ]
  .rintro k hk acc _ ha hl ⟨n,ls,os,rfl,rfl,h1,h2,h3,h4⟩
   have hk':k < Z:=by simpa [bZ] using hk
   have hpos:0 < ls.length:=by omega
   have et:=m_law_take n ls.length (by omega) (by omega)
   have g1:=Int.emod_nonneg n (show (ls.length:Int) ≠ 0 by omega)
   have g2:=Int.emod_lt_of_pos n (show (0:Int) < ls.length by omega)
   obtain ⟨j,hj⟩:∃j:Nat,n % (ls.length:Int)=(j:Int):=⟨(n % (ls.length:Int)).toNat,by omega⟩
   have hlt:j < ls.length:=by omega
   rw [hj] at et
   have ll:(lD ls).length=ls.length:=by simp [lD]
   rw [fB]
   simp only [eI,dZ,bB]
   refine ⟨by simp,?_⟩
   simp only [if_true]
   refine nk ⟨_,_,rfl⟩ ?_
   simp [-Prod.exists,ll,et]
   refine ⟨j,rfl,by omega,.int (ls[j]:Int),by simp [lD,hlt],_,ls.eraseIdx j,os ++ [ls[j]],by simp [lD],⟨rfl,jd _ ls j⟩,by simp [h1],?_,?_,fun o ho=>h4 o (List.mem_of_mem_eraseIdx ho)⟩
   .rw [List.length_eraseIdx,if_pos hlt];omega
   .intro o ho
    rcases List.mem_append.mp ho with ho | ho
    .exact h3 o ho
    .rw [List.mem_singleton.mp ho];exact h4 _ (List.getElem_mem hlt)
  .rintro xs _ hx hl ⟨n,ls,os,rfl,rfl,h1,h2,h3,h4⟩
   have:(bZ 0 Z).length=Z:=by simp [bZ]
   exact ⟨by simp,trivial,n,ls,os,rfl,by omega,h3⟩
 rintro _ ⟨n,ls,os,rfl,h1,h3⟩
 simp
 refine bx os (fun (k:Nat)=>.int (k:Int)) (fun k=>some (hD (G hs k))) rfl ?_ (by omega) (fun k hk=>?_) ?_
 .simp [d9,lD]
 .have hlt:k < hs.length:=by have:=h3 k hk;omega
  have:jk (.lst (hs.map hD)) (.int (k:Int))=some (hD (G hs k)):=lj hlt
  simp [this]
 .simp [d7,eN,List.filterMap_eq_map]
  refine ⟨_,_,rfl,rfl,M,os.map (G hs),n,by simp [bt],rfl,by simp;omega,by simp;omega,by omega,?_⟩
  intro h hh
  obtain ⟨k,hk,rfl⟩:=List.mem_map.mp hh
  have hlt:k < hs.length:=by have:=h3 k hk;omega
  have:G hs k ∈ hs:=by simp [G,hlt]
  exact hw _ this
variable {ls:List Nat}
noncomputable def isInt:D->Bool
 | .int _=>true
 | _=>false
noncomputable def cc (n:Int):D->Bool
 | .int i=>decide (0 ≤ i) && decide (i < n)
 | _=>false
theorem ym (x:D):cg Ey yI [x]=some (.bl (isInt x)):= by
 apply bL
 show Ok yI [.pu x] _
 dsimp only [yI,qB]
 cases x <;> simp [bJ,iV,isInt]
theorem xu (x:D) (n:Int):cg EF xV [x,.int n]=some (.bl (cc n x)):= by
 apply bL
 show Ok xV [.pu x,.pu (.int n)] _
 dsimp only [xV,kg]
 cases x with
 | int i=>
  by_cases h:0 ≤ i
  .simp [dH,ym,isInt,cc,Kc,Gk,dE,h]
  .simp [dH,ym,isInt,cc,Kc,Gk,dE,h]
 | _=>simp [dH,ym,isInt,cc]
noncomputable def ku (n:Int):D->Bool
 | .tup xs=>xs.all (cc n)
 | _=>false
noncomputable def Short (x:D):Prop:=∀xs,x=.tup xs->xs.length ≤ 60
theorem xO {x:D} (n:Int) (h:Short x):cg wG wJ [x,.int n]=some (.bl (ku n x)):= by
 apply bL
 show Ok wJ [.pu x,.pu (.int n)] _
 dsimp only [wJ,qj]
 cases x with
 | tup xs=>
  have hl:=h xs rfl
  simp [bJ,iV]
  refine bx xs id (fun x=>some (.bl (cc n x))) rfl ?_ (by omega) (fun x hx=>?_) ?_
  .simp [d9]
  .simp [dH,xu]
  .simp [oE,eB,List.filterMap_eq_map,ku,Function.comp_def]
 | _=>simp [bJ,iV,ku]
theorem j_ {n:Nat}:∀{xs:List D},xs.all (cc n)=true->∃ls:List Nat,xs=lD ls∧∀i ∈ ls,i < n
 | [],_=>⟨[],rfl,by simp⟩
 | x :: xs,h=>by
  simp only [List.all_cons,Bool.and_eq_true] at h
  obtain ⟨ls,rfl,hl⟩:=j_ h.2
  cases x with
  | int i=>
   simp only [cc,Bool.and_eq_true,decide_eq_true_eq] at h
   refine ⟨i.toNat :: ls,?_,?_⟩
   .simp [lD];omega
   .intro j hj
    rcases List.mem_cons.mp hj with rfl | hj
    .omega
    .exact hl j hj
  | _=>simp [cc] at h
theorem yq (n:Nat):∀(a b:List Int),dz.go (n + 1) (a.map D.int) (b.map D.int)=some (decide (a.take b.length=b.take a.length)):= by
 intro a
 induction a with
 | nil=>intro b;cases b <;> simp [dz.go]
 | cons x r ih=>
  intro b
  cases b with
  | nil=>simp [dz.go]
  | cons y t=>
   by_cases e:x=y
   .subst e
    simp [dz.go,dz,flat,t9,ih]
   .simp [dz.go,dz,flat,t9,e,ih]
theorem vE (neg:Bool) (a b:List Int):jS neg (.lst (a.map .int)) (.lst (b.map .int))=some (.bl (if neg then !decide (a=b) else decide (a=b))):= by
 by_cases e:a.length=b.length
 .have:=yq 7 a b
  rw [e,List.take_of_length_le (Nat.le_of_eq e),<- e,List.take_of_length_le (Nat.le_of_eq e.symm)] at this
  simp [jS,g6,dz,e,this]
 .have:a ≠ b:=fun q=>e (q ▸ rfl)
  simp [jS,g6,dz,e,this]
theorem fw (ls:List Nat):(lD ls).length=ls.length:=by simp [lD]
end K02
namespace K02
open PySem L2 Jt
theorem Fi (neg:Bool) (k:Nat) (ls:List Nat):DV neg (.int (k:Int)) (.tup (lD ls))=some (.bl (if neg then !decide (k ∈ ls) else decide (k ∈ ls))):= by
 have:lD ls=(ls.map fun (i:Nat)=>(i:Int)).map .int:=by simp [lD]
 have e:=uD neg k (ls.map fun (i:Nat)=>(i:Int))
 unfold hD at e
 rw [this,e]
 have:((k:Int) ∈ ls.map fun (i:Nat)=>(i:Int))=(k ∈ ls):= by
  refine propext ⟨fun h=>?_,fun h=>List.mem_map.mpr ⟨k,h,rfl⟩⟩
  obtain ⟨i,hi,e⟩:=List.mem_map.mp h
  rw [<- Int.ofNat_inj.mp e];exact hi
 simp only [this]
variable {hs:List (List Int)}
theorem ub {a n:Nat} (h:a < n):cc (n:Int) (.int (a:Int))=true:=by simp [cc];omega
theorem yi (m:Int) {a:Nat} (h:a < hs.length):cg Fw EL [bt m hs,.int (a:Int)]=some .non:= by
 have e:=xu (.int (a:Int)) hs.length
 rw [ub h] at e
 have e1:=cK m hs
 unfold cg
 have:Ok EL [.pu (bt m hs),.pu (.int (a:Int))] fun fl _=>fl=.nx:= by
  dsimp only [EL,zt]
  generalize bt m hs=lay at *
  refine Du (fun b δ=>b=false∧δ=[.pu lay,.pu (.int (a:Int))]) ?_ (fun _ h=>by cases h.1) ?_
  .simp [dH,e,e1,fk,jc]
  .rintro _ ⟨_,rfl⟩
   simp
 obtain ⟨fl,δ',e2,rfl⟩:=this
 rw [show entry Fw [bt m hs,.int (a:Int)]=[.pu (bt m hs),.pu (.int (a:Int))] from rfl,e2]
noncomputable def eT (hs:List (List Int)) (a b:Nat):List Int:=(G hs a).filter fun c=>decide (c ∈ G hs b)
theorem yT (m:Int) (h7:∀h ∈ hs,h.length ≤ 7) {a b:Nat} (ha:a < hs.length) (hb:b < hs.length):cg xC Af [bt m hs,.int (a:Int),.int (b:Int)]=some (hD (eT hs a b)):= by
 apply bL
 show Ok Af [.pu (bt m hs),.pu (.int (a:Int)),.pu (.int (b:Int)),.un] _
 dsimp only [Af,oI]
 have n1:=yi m ha
 have n2:=yi m hb
 have e1:=cK m hs
 have ga:=lj ha
 have gb:=lj hb
 have g7:(G hs a).length ≤ 7:= by
  have:G hs a=hs[a]:=by simp [G,ha]
  rw [this];exact h7 _ (List.getElem_mem ha)
 generalize bt m hs=lay at *
 refine cX (fun δ=>δ=[.pu lay,.pu (.int (a:Int)),.pu (.int (b:Int)),.un]) (by simp [dH,n1]) ?_
 rintro _ rfl
 refine cX (fun δ=>δ=[.pu lay,.pu (.int (a:Int)),.pu (.int (b:Int)),.un]) (by simp [dH,n2]) ?_
 rintro _ rfl
 refine cX (fun δ=>δ=[.pu lay,.pu (.int (a:Int)),.pu (.int (b:Int)),.pu (.tup (hs.map hD))]) (by simp [e1]) ?_
 rintro _ rfl
 simp only [bj,fP,cG,bB]
 refine bx (G hs a) .int (fun c=>if decide (c ∈ G hs b)=true then some (.int c) else none) rfl ?_ (by omega) (fun c _=>?_) ?_
 .simp [ga,j1]
 .by_cases q:c ∈ G hs b <;> simp [gb,uD,q]
 .rw [bQ]
  simp [cq,eT,hD]
theorem kJ {L:List Nat} {i:Nat} (h:i < L.length):jk (.tup (lD L)) (.int (i:Int))=some (.int ((L.getD i 0:Nat):Int)):= by
 show jM _ _=_
 rw [atI_nat _ _ (by simpa [lD] using h)]
 simp [lD,h]
theorem Ho {L:List Nat} (hl:L.length ≤ 60) {i j:Nat} (hi:i < L.length) (hj:j < L.length):cg xq zb [.tup (lD L),.int (i:Int),.int (j:Int)]=some (.tup (lD (lk L i j))):= by
 apply bL
 show Ok zb [.pu (.tup (lD L)),.pu (.int (i:Int)),.pu (.int (j:Int)),.un,.un] _
 dsimp only [zb,qF]
 have gi:=kJ hi
 have gj:=kJ hj
 refine cX (fun δ=>δ=[.pu (.tup (lD L)),.pu (.int (i:Int)),.pu (.int (j:Int)),.pu (.int ((min (L.getD i 0) (L.getD j 0):Nat):Int)),.un]) ?_ ?_
 .simp only [eF,fP,cG,ij,eP,bB]
  simp [gi,gj,pZ]
  split <;> omega
 rintro _ rfl
 refine cX (fun δ=>δ=[.pu (.tup (lD L)),.pu (.int (i:Int)),.pu (.int (j:Int)),.pu (.int ((min (L.getD i 0) (L.getD j 0):Nat):Int)),.pu (.int ((max (L.getD i 0) (L.getD j 0):Nat):Int))]) ?_ ?_
 .simp only [eF,fP,cG,ij,eP,bB]
  simp [gi,gj,wk]
  split <;> omega
 rintro _ rfl
 simp only [bj,fP,cG,bB]
 generalize hA:min (L.getD i 0) (L.getD j 0)=A
 generalize hB:max (L.getD i 0) (L.getD j 0)=B
 refine bx L (fun (l:Nat)=>.int (l:Int)) (fun l=>some (.int ((if l=B then A else l:Nat):Int))) rfl ?_ (by omega) (fun l _=>?_) ?_
 .simp [d9,eN,lD]
 .have:=eU false l B
  simp at this
  by_cases q:l=B
  .subst q;simp [this]
  .simp [this,q]
 .rw [show lk L i j=L.map (fun l=>if l=B then A else l) by unfold lk;rw [hA,hB]]
  simp [cq,lD,List.filterMap_eq_map,Function.comp_def]
noncomputable def mt (hs:List (List Int)) (i j:Nat):Bool:=!(eT hs i j).isEmpty
theorem jh (xs:List D) (k:Nat):cutD xs none (some (k:Int))=xs.take k:= by
 unfold cutD
 have h1:HT.sIx xs.length 0 none=0:=rfl
 have h2:HT.sIx xs.length xs.length (some (k:Int))=min k xs.length:= by
  simp [HT.sIx]
  omega
 rw [h1,h2]
 simp
theorem f6 (xs:List D) (k:Nat):cutD xs (some (k:Int)) none=xs.drop k:= by
 unfold cutD
 have h1:HT.sIx xs.length xs.length none=xs.length:=rfl
 have h2:HT.sIx xs.length 0 (some (k:Int))=min k xs.length:= by
  simp [HT.sIx]
  omega
 rw [h1,h2]
 by_cases h:k ≤ xs.length
 .rw [Nat.min_eq_left h]
  exact List.take_of_length_le (by rw [List.length_drop];omega)
 .rw [Nat.min_eq_right (by omega),List.drop_eq_nil_of_le (Nat.le_refl _),List.drop_eq_nil_of_le (by omega),List.take_nil]
theorem HZ {n k:Nat} (h:k ≤ n):uc (.lst (lD (List.range n))) none (some (k:Int))=some (.lst (lD (List.range k))):= by
 show some (D.lst (cutD _ _ _))=_
 rw [jh]
 simp [lD,<- List.map_take,List.take_range,Nat.min_eq_left h]
theorem Ip (m:Int) (h7:∀h ∈ hs,h.length ≤ 7) (h6:hs.length ≤ 6):i_ tG y8 [bt m hs]=some ((Ar (mt hs) hs.length).map fun p=>.tup (lD p)):= by
 apply uv
 show Ok y8 [.pu (bt m hs),.un,.un,.un,.un] _
 dsimp only [y8,pB]
 have e1:=cK m hs
 have ec:=fun {a b:Nat} (ha:a < hs.length) (hb:b < hs.length)=>yT m h7 ha hb
 have hn:(hs.length:Int) < 100000:=by omega
 generalize hnn:hs.length=n at *
 generalize bt m hs=lay at *
 refine cX (fun δ=>δ=[.pu lay,.pu (.lst (lD (List.range n))),.un,.un,.un]) (by simp [e1,fk,hnn,nu,hn,kA]) ?_
 rintro _ rfl
 refine cX (fun δ=>δ=[.pu lay,.pu (.lst (lD (List.range n))),.pu (.tup (lD (List.range n))),.un,.un]) (by simp [cq]) ?_
 rintro _ rfl
 refine cX (fun δ=>∃x3 x4,δ=[.pu lay,.pu (.lst (lD (List.range n))),.pu (.tup (lD (dj (mt hs) n))),x3,x4]) ?_ ?_
 .refine uC (lD (List.range n)) (fun k δ=>∃x3 x4,δ=[.pu lay,.pu (.lst (lD (List.range n))),.pu (.tup (lD (sv (mt hs) k (List.range n)))),x3,x4]) (by simp [d9,eN]) ⟨_,_,rfl⟩ ?_ ?_
  .rintro k hk _ ⟨x3,x4,rfl⟩
   have hk':k < n:=by simpa [lD] using hk
   have ek:(lD (List.range n))[k]=.int (k:Int):=by simp [lD]
   have L0:Lb n (sv (mt hs) k (List.range n)):=(oa (j9 n) k (by omega)).1
   rw [ek,dZ]
   refine ⟨by simp,?_⟩
   refine (uC (Q:=fun fl δ=>fl=.nx∧∃x3 x4,δ=[.pu lay,.pu (.lst (lD (List.range n))),.pu (.tup (lD (sv (mt hs) (k + 1) (List.range n)))),x3,x4]) (lD (List.range k)) (fun j δ=>∃x4,δ=[.pu lay,.pu (.lst (lD (List.range n))),.pu (.tup (lD (pD (mt hs) k j (sv (mt hs) k (List.range n))))),.pu (.int (k:Int)),x4]) ?_ ⟨x4,rfl⟩ ?_ ?_).mono ?_
   .simp [HZ (Nat.le_of_lt hk'),d9,eN,Iz]
   .rintro j hj _ ⟨x4,rfl⟩
    have hj':j < k:=by simpa [lD] using hj
    have ej:(lD (List.range k))[j]=.int (j:Int):=by simp [lD]
    rw [ej,dZ]
    refine ⟨by simp,?_⟩
    have L1:Lb n (pD (mt hs) k j (sv (mt hs) k (List.range n))):=(qW hk' j _ (by omega) L0).1
    have c:=ec hk' (show j < n by omega)
    have lkd:=Ho (L:=pD (mt hs) k j (sv (mt hs) k (List.range n))) (by rw [L1.1];omega) (i:=k) (j:=j) (by rw [L1.1];exact hk') (by rw [L1.1];omega)
    refine Du (fun b δ=>b=mt hs k j∧δ=[.pu lay,.pu (.lst (lD (List.range n))),.pu (.tup (lD (pD (mt hs) k j (sv (mt hs) k (List.range n))))),.pu (.int (k:Int)),.pu (.int (j:Int))]) ?_ ?_ ?_
    .simp [dH,c,jc,hD,mt]
    .rintro _ ⟨q,rfl⟩
     simp [dH,lkd,pD,q.symm]
    .rintro _ ⟨q,rfl⟩
     simp [pD,q.symm]
   .rintro _ ⟨x4,rfl⟩
    refine ⟨rfl,.pu (.int (k:Int)),x4,?_⟩
    rw [show (lD (List.range k)).length=k by simp [lD]]
    rfl
   .rintro fl δ ⟨rfl,h⟩
    exact h
  .rintro _ ⟨x3,x4,rfl⟩
   rw [show (lD (List.range n)).length=n by simp [lD]]
   exact ⟨rfl,_,_,rfl⟩
 .rintro _ ⟨x3,x4,rfl⟩
  have L2:=oB (mt hs) n
  simp only [bj]
  refine bx (List.range n) (fun (l:Nat)=>.int (l:Int)) (fun l=>if decide ((dj (mt hs) n).getD l 0=l)=true then some (.tup (lD (pc (dj (mt hs) n) n l))) else none) rfl (by simp [d9,eN,lD]) (by simp;omega) (fun l hl=>?_) ?_
  .have hl':=List.mem_range.mp hl
   have g:=kJ (L:=dj (mt hs) n) (i:=l) (by rw [L2.1];exact hl')
   have d:=eU false ((dj (mt hs) n).getD l 0) l
   simp only [eI,dZ]
   refine ⟨by simp,?_⟩
   by_cases q:(dj (mt hs) n).getD l 0=l
   .refine (show Ok _ _ fun b δ=>b=true∧δ=[.pu lay,.pu (.lst (lD (List.range n))),.pu (.tup (lD (dj (mt hs) n))),x3,x4,.pu (.int (l:Int))] by simp [-List.getD_eq_getElem?_getD,g,eU,q]).mono fun b δ h=>?_
    obtain ⟨rfl,rfl⟩:=h
    rw [if_pos rfl]
    simp only [bj,fP,cG,bB]
    refine bx (List.range n) (fun (k:Nat)=>.int (k:Int)) (fun k=>if decide ((dj (mt hs) n).getD k 0=l)=true then some (.int (k:Int)) else none) rfl (by simp [d9,eN,lD]) (by simp;omega) (fun k hk=>?_) ?_
    .have g:=kJ (L:=dj (mt hs) n) (i:=k) (by rw [L2.1];exact List.mem_range.mp hk)
     have d:=eU false ((dj (mt hs) n).getD k 0) l
     by_cases q:(dj (mt hs) n).getD k 0=l
     .simp [-List.getD_eq_getElem?_getD,g,eU,q]
     .simp [-List.getD_eq_getElem?_getD,g,eU,q]
    .rw [bQ]
     simp [-List.getD_eq_getElem?_getD,cq,pc,lD,q]
   .refine (show Ok _ _ fun b δ=>b=false∧δ=[.pu lay,.pu (.lst (lD (List.range n))),.pu (.tup (lD (dj (mt hs) n))),x3,x4,.pu (.int (l:Int))] by simp [-List.getD_eq_getElem?_getD,g,eU,q]).mono fun b δ h=>?_
    obtain ⟨rfl,rfl⟩:=h
    simp [-List.getD_eq_getElem?_getD,q]
  .rw [bQ]
   simp [-List.getD_eq_getElem?_getD,Ar,Function.comp_def]
end K02
namespace K02
open PySem L2 Jt
variable {hs:List (List Int)} {ls:List Nat}
theorem eR (neg:Bool) (a b:Int):dA neg (.int a) (.int b)=some (.bl (if neg then !decide (a=b) else decide (a=b))):= by
 simp [dA,flat,gZ]
theorem iE (neg:Bool) (a b:Bool):dA neg (.bl a) (.bl b)=some (.bl (if neg then !decide (a=b) else decide (a=b))):= by
 cases a <;> cases b <;> cases neg <;> rfl
theorem yv {n:Nat} (ls:List Nat):(lD ls).all (cc n)=ls.all fun i=>decide (i < n):= by
 unfold lD
 rw [List.all_map]
 refine List.all_congr rfl fun i=>?_
 simp [cc]
theorem l9:∀l:List Int,(fX l).length=l.length ↔ l.Nodup
 | []=>by simp [fX]
 | x :: r=>by
  have h1:=ti r
  unfold fX
  rw [List.nodup_cons,<- l9 r]
  split
  .rename_i h
   rw [dI] at h
   constructor
   .intro e;rw [List.length_cons] at e;omega
   .exact fun q=>absurd h q.1
  .rename_i h
   rw [dI] at h
   simp [h]
theorem gg {ls:List Nat}:(ls.map fun (i:Nat)=>(i:Int)).Nodup ↔ ls.Nodup:= by
 constructor
 .intro h
  exact List.Pairwise.of_map (S:=(· ≠ ·)) _ (fun a b hab e=>hab (by rw [e])) h
 .intro h
  exact List.Pairwise.map _ (fun a b hab e=>hab (Int.ofNat_inj.mp e)) h
theorem ic (ls:List Nat):fC (lD ls)=some (ls.map fun (i:Nat)=>(i:Int)):= by
 have:lD ls=(ls.map fun (i:Nat)=>(i:Int)).map .int:=by simp [lD]
 rw [this,gJ]
theorem J5 (ls:List Nat) (h:ls.length ≤ 60):cg Ie E4 [.tup (lD ls)]=some (.bl (decide ls.Nodup)):= by
 apply bL
 show Ok E4 [.pu (.tup (lD ls))] _
 dsimp only [E4,xh]
 have h2:ls.length < 4000:=by omega
 have e:((fX (ls.map fun (i:Nat)=>(i:Int))).length=ls.length)=ls.Nodup:= by
  have:=l9 (ls.map fun (i:Nat)=>(i:Int))
  rw [List.length_map] at this
  exact propext (this.trans gg)
 simp only [bj,ij,xX,eP,fP,cG,bB,List.getElem?_cons_zero,Option.some.injEq,Jt.Slot.pu.injEq,exists_eq_left']
 simp [eN,sJ,ic,h2,fk,eR,iE]
 rw [show (lD ls).length=ls.length by simp [lD]]
 simp only [Int.natCast_inj,show ∀a b:Nat,((a:Int)=(b:Int))=(a=b) from fun a b=>propext Int.ofNat_inj,e]
noncomputable def Good (n:Nat) (ls:List Nat):Prop:=ls.length=n∧ls.Nodup∧∀i ∈ ls,i < n
theorem zr {ls ls':List Nat} (e:lD ls=lD ls'):ls=ls':= by
 have:=congrArg fC e
 rw [ic,ic] at this
 exact List.map_inj_right (fun a b q=>Int.ofNat_inj.mp q) |>.mp (Option.some.inj this)
theorem Jd {x:D} (n:Nat) (h:Short x):∃b,cg Hq r8 [x,.int n]=some (.bl b)∧(b=true ↔ ∃ls,x=.tup (lD ls)∧Good n ls):= by
 cases hb:ku n x with
 | false=>
  refine ⟨false,bL ?_,?_⟩
  .show Ok r8 [.pu x,.pu (.int n)] _
   dsimp only [r8,qT]
   simp [dH,xO _ h,hb]
  .simp only [Bool.false_eq_true,false_iff]
   rintro ⟨ls,rfl,_,_,h3⟩
   rw [ku,yv] at hb
   rw [List.all_eq_false] at hb
   obtain ⟨i,hi,hi2⟩:=hb
   exact hi2 (decide_eq_true (h3 i hi))
 | true=>
  cases x with
  | tup xs=>
   obtain ⟨ls,rfl,hl⟩:=j_ hb
   have hlen:ls.length ≤ 60:=by simpa [lD] using h _ rfl
   have ei:((ls.length:Int)=(n:Int))=(ls.length=n):=propext Int.ofNat_inj
   by_cases q:ls.length=n
   .refine ⟨decide ls.Nodup,bL ?_,?_⟩
    .show Ok r8 [.pu (.tup (lD ls)),.pu (.int n)] _
     dsimp only [r8,qT]
     simp [dH,xO _ h,hb,fk,eR,iE,q,J5 _ hlen,fw]
    .rw [decide_eq_true_eq]
     constructor
     .intro hn;exact ⟨ls,rfl,q,hn,hl⟩
     .rintro ⟨ls',e,_,h2,_⟩
      rw [zr (D.tup.inj e)];exact h2
   .refine ⟨false,bL ?_,?_⟩
    .show Ok r8 [.pu (.tup (lD ls)),.pu (.int n)] _
     dsimp only [r8,qT]
     simp only [bj,CC,fP,cG,eP,bB,ij,List.getElem?_cons_zero,List.getElem?_cons_succ,Option.some.injEq,Jt.Slot.pu.injEq,exists_eq_left']
     simp [dH,xO _ h,hb,fk,eR,iE,fw,ei,q]
    .simp only [Bool.false_eq_true,false_iff]
     rintro ⟨ls',e,h1,_⟩
     rw [<- zr (D.tup.inj e)] at h1
     exact q h1
  | _=>cases hb
noncomputable def pl (os:List Nat) (c:Int):Int:=((os.idxOf c.toNat:Nat):Int)
variable {M:Nat} {os:List Nat}
theorem j8 (h:Good M os) {c:Nat} (hc:c < M):c ∈ os:= by
 obtain ⟨h1,h2,h3⟩:=h
 refine Decidable.byContradiction fun q=>?_
 have:=rH M (c :: os) (List.nodup_cons.mpr ⟨q,h2⟩) fun i hi=>by
  rcases List.mem_cons.mp hi with rfl | hi
  .exact hc
  .exact h3 i hi
 rw [List.length_cons] at this
 omega
noncomputable def nm (os:List Nat) (hs:List (List Int)):List (List Int):=hs.map fun h=>b_ (h.map (pl os))
theorem qE {a b:Nat} {c:Int}:c ∈ eT hs a b ↔ c ∈ G hs a∧c ∈ G hs b:=by simp [eT,List.mem_filter]
theorem nY (hs:List (List Int)) (a b:Nat):mt hs a b=mt hs b a:= by
 have h:∀a b,mt hs a b=true->mt hs b a=true:=fun a b e=>by
  unfold mt at *
  cases q:eT hs a b with
  | nil=>rw [q] at e;cases e
  | cons x r=>
   have hx:x ∈ eT hs a b:=by rw [q];exact List.mem_cons_self
   obtain ⟨h1,h2⟩:=qE.mp hx
   have hx':=qE.mpr ⟨h2,h1⟩
   cases q':eT hs b a with
   | nil=>rw [q'] at hx';cases hx'
   | cons y r'=>rfl
 cases e1:mt hs a b <;> cases e2:mt hs b a
 .rfl
 .rw [h b a e2] at e1;cases e1
 .rw [h a b e1] at e2;cases e2
 .rfl
end K02
namespace K02
open PySem L2 Jt
variable {hs:List (List Int)} {ls os:List Nat} {M:Nat}
theorem yB {α:Type} {lo own:Nat} {δ:DS} {fi:Jt.M jB} {turn:D->Jt.M (Option (Int × Int))} {Q:D->DS->Prop} (as:List α) (e:α->D) (g:α->Option (Int × Int)) (hl:δ.length=lo) (hi:Ok fi δ fun it δ'=>it=bF (as.map e)∧δ' = δ) (hn:as.length ≤ 100000)
  (ht:∀a ∈ as,Ok (turn (e a)) (δ ++ List.replicate own .un) fun o δ2=>o=g a∧δ2.take lo=δ) (hQ:Q (.dic (as.foldl (fun acc a=>BU acc (g a)) [])) δ):Ok (nq lo own fi turn) δ Q:= by
 have gen:∀(es:List α) (acc:List (Int × Int)),(∀d ∈ es,d ∈ as)->fJ own turn (fun _=>true) (bF (es.map e)).1 acc δ=some (es.foldl (fun acc a=>BU acc (g a)) acc,δ):= by
  intro es
  induction es with
  | nil=>intro acc _;rfl
  | cons d es ih=>
   intro acc hs
   obtain ⟨o,δ2,e1,e0,e2⟩:=ht d (hs d List.mem_cons_self)
   show fJ own turn (fun _=>true) ((fun _=>some (e d)) :: (bF (es.map e)).1) acc δ=_
   unfold fJ
   dsimp only
   rw [e1]
   dsimp only
   rw [hl,e2,ih _ fun x hx=>hs x (List.mem_cons_of_mem _ hx),e0]
   rfl
 unfold nq
 simp only [bj]
 refine ⟨(),δ,by unfold jl;rw [if_pos hl],hi.mono fun it δ' ⟨e1,e2⟩=>?_⟩
 subst e1;subst e2
 refine gn.mpr ⟨by simpa [bF] using hn,_,δ',gen as [] fun _ h=>h,?_⟩
 exact bB.mpr hQ
theorem gY (ns:List Int) (h:ns.length ≤ 60):sortI (ns.map .int)=some ((b_ ns).map .int):= by
 unfold sortI
 rw [gJ]
 exact if_pos (by omega)
theorem Ej {places:D} {pf:Int->Int} (hp:∀h ∈ hs,∀c ∈ h,pS places (.int c)=some (.int (pf c))) (h6:hs.length ≤ 6) (h7:∀h ∈ hs,h.length ≤ 7):cg mx pq [.tup (hs.map hD),places]=some (.tup ((hs.map fun h=>b_ (h.map pf)).map hD)):= by
 apply bL
 show Ok pq [.pu (.tup (hs.map hD)),.pu places] _
 dsimp only [pq,mw]
 simp only [bj,fP,cG,bB]
 refine bx hs hD (fun h=>some (hD (b_ (h.map pf)))) rfl (by simp [d9,eN]) (by omega) (fun h hh=>?_) ?_
 .simp only [eI,dZ]
  refine ⟨by simp,?_⟩
  simp only [bB,if_true,bj,fP,cG,xX]
  have l7:=h7 h hh
  refine bx h .int (fun c=>some (.int (pf c))) rfl (by simp [j1]) (by omega) (fun c hc=>?_) ?_
  .have:=hp h hh c hc
   simp [this]
  .have:=gY (h.map pf) (by simpa using Nat.le_trans l7 (by decide))
   rw [List.map_map] at this
   simp [eN,List.filterMap_eq_map,Function.comp_def] at this ⊢
   simp [this,cq,hD]
 .simp [cq,List.filterMap_eq_map,Function.comp_def]
noncomputable def lX:Nat->List Nat->List (Int × Int)
 | _,[]=>[]
 | n,c :: r=>((c:Int),(n:Int)) :: lX (n + 1) r
theorem kQ:∀(os:List Nat) (n:Nat),j4 n (lD os)=(lX n os).map fun p=>.tup [.int p.2,.int p.1]
 | [],_=>rfl
 | c :: r,n=>by
  show D.tup [.int (n:Int),.int (c:Int)] :: j4 (n + 1) (lD r)=_
  rw [kQ r (n + 1)]
  rfl
theorem ko:∀(os:List Nat) (n:Nat),(lX n os).map (·.1)=os.map fun (i:Nat)=>(i:Int)
 | [],_=>rfl
 | c :: r,n=>by
  show (c:Int) :: (lX (n + 1) r).map (·.1)=_
  rw [ko r (n + 1)]
  rfl
theorem nJ:∀(os:List Nat) (n:Nat),(lX n os).length=os.length
 | [],_=>rfl
 | c :: r,n=>by
  show (lX (n + 1) r).length + 1=_
  rw [nJ r (n + 1)]
  rfl
theorem Dx {acc:List (Int × Int)} {k v:Int} (h:k ∉ acc.map (·.1)):il acc k v=acc ++ [(k,v)]:= by
 unfold il
 rw [if_neg]
 intro q
 obtain ⟨p,hp,e⟩:=List.any_eq_true.mp q
 exact h (List.mem_map.mpr ⟨p,hp,of_decide_eq_true e⟩)
theorem oo:∀(ps acc:List (Int × Int)),((acc ++ ps).map (·.1)).Nodup->ps.foldl (fun acc a=>BU acc (some (a.1,a.2))) acc=acc ++ ps
 | [],acc,_=>(List.append_nil _).symm
 | p :: ps,acc,h=>by
  have hn:p.1 ∉ acc.map (·.1):= by
   rw [List.map_append,List.nodup_append] at h
   intro q
   exact h.2.2 _ q _ (List.mem_map.mpr ⟨p,List.mem_cons_self,rfl⟩) rfl
  show ps.foldl _ (il acc p.1 p.2)=_
  rw [Dx hn,oo ps (acc ++ [(p.1,p.2)]) (by rwa [List.append_assoc])]
  rw [List.append_assoc]
  rfl
theorem jW:∀(os:List Nat) (n:Nat) (c:Nat),c ∈ os->iG (lX n os) (c:Int)=some ((n + os.idxOf c:Nat):Int)
 | d :: r,n,c,h=>by
  unfold iG
  show Option.map (·.2) (List.find? (fun p=>decide (p.1=(c:Int))) (((d:Int),(n:Int)) :: lX (n + 1) r))=_
  rw [List.find?_cons]
  by_cases q:d=c
  .subst q
   simp
  .have q':¬ ((d:Int)=(c:Int)):=fun z=>q (Int.ofNat_inj.mp z)
   have hc:c ∈ r:= by
    rcases List.mem_cons.mp h with e | e
    .exact absurd e.symm q
    .exact e
   have ih:=jW r (n + 1) c hc
   unfold iG at ih
   simp only [q',decide_false]
   have hb:(d == c)=false:=by simp [q]
   rw [ih,List.idxOf_cons,hb,show n + 1 + r.idxOf c=n + (r.idxOf c + 1) by omega]
   rfl
theorem dW:∀(l:List Nat) (j:Nat) (h:j < l.length),(l[j] :: l.eraseIdx j).Perm l
 | a :: r,0,_=>List.Perm.refl _
 | a :: r,j + 1,h=>(List.Perm.swap a (r[j]'(Nat.lt_of_succ_lt_succ h)) (r.eraseIdx j)).trans ((dW r j (Nat.lt_of_succ_lt_succ h)).cons a)
theorem o8 (n0:Int) {Z:Nat} (hZ:Z ≤ 7):∃d xs',gN EJ Gf [.int n0] [.int Z]=some (d,xs')∧(∃os:List Nat,d=.tup (lD os)∧Good Z os)∧∃n:Int,xs' = [.int n]:= by
 apply iK
 show Ok Gf [.ow true [.int n0],.pu (.int Z),.un] _
 dsimp only [Gf,Aa]
 have hn:(Z:Int) < 100000:=by omega
 have sZ:dw Z=true:=by simp [dw];omega
 refine cX (fun δ=>δ=[.ow true [.int n0],.pu (.int Z),.ow false (lD (List.range Z))]) (by simp [nu,hn,kA]) ?_
 rintro _ rfl
 simp only [bj,fP,cG,bB]
 refine eS (bZ 0 Z) (fun k acc δ=>∃(n:Int) (ls os:List Nat),acc=lD os∧δ=[.ow true [.int n],.pu (.int Z),.ow false (lD ls)]∧(os.length=k∧ls.length + k=Z)∧(os ++ ls).Perm (List.range Z)) rfl ?_ (by simp [bZ];omega) ⟨n0,List.range Z,[],rfl,rfl,⟨rfl,by simp⟩,by simp⟩ ?_ ?_
 .simp [i5,sZ]
 .rintro k hk acc _ ha hl ⟨n,ls,os,rfl,rfl,⟨h1,h2⟩,h3⟩
  have hk':k < Z:=by simpa [bZ] using hk
  have et:=m_law_take n ls.length (by omega) (by omega)
  have g1:=Int.emod_nonneg n (show (ls.length:Int) ≠ 0 by omega)
  have g2:=Int.emod_lt_of_pos n (show (0:Int) < ls.length by omega)
  obtain ⟨j,hj⟩:∃j:Nat,n % (ls.length:Int)=(j:Int):=⟨(n % (ls.length:Int)).toNat,by omega⟩
  have hlt:j < ls.length:=by omega
  rw [hj] at et
  rw [fB]
  simp only [eI,dZ,bB]
  refine ⟨by simp,?_⟩
  simp only [if_true]
  refine nk ⟨_,_,rfl⟩ ?_
  simp [-Prod.exists,fw,et]
  refine ⟨j,rfl,by omega,.int (ls[j]:Int),by simp [lD,hlt],_,ls.eraseIdx j,os ++ [ls[j]],by simp [lD],⟨rfl,jd _ ls j⟩,⟨by simp [h1],?_⟩,?_⟩
  .rw [List.length_eraseIdx,if_pos hlt];omega
  .rw [List.append_assoc]
   exact (List.Perm.append_left os (dW ls j hlt)).trans h3
 .rintro xs _ hx hl ⟨n,ls,os,rfl,rfl,⟨h1,h2⟩,h3⟩
  have e:(bZ 0 Z).length=Z:=by simp [bZ]
  rw [e] at h1 h2
  have e0:ls=[]:=List.length_eq_zero_iff.mp (by omega)
  subst e0
  rw [List.append_nil] at h3
  simp [d7,eN]
  exact ⟨os,rfl,h1,h3.symm.nodup List.nodup_range,fun i hi=>List.mem_range.mp (h3.mem_iff.mp hi)⟩
end K02
namespace K02
open PySem L2 Jt
end K02
local macro_rules | `(tactic| rfl')=>`(tactic| repeat (first
 | with_reducible first | apply Jt.oBind | apply Jt.oPure | apply Jt.oM2 | apply Jt.oMC | apply Jt.oCons | apply Jt.oM1 | apply Jt.oMQ | apply Jt.oTup | apply Jt.oLst | apply Jt.oSq | apply Jt.oSqO | apply Jt.oStP | apply Jt.oStO | apply Jt.oIf | apply Jt.oAnd | apply Jt.oOr | apply Jt.oNot | apply Jt.oAsB | apply Jt.oAsI | apply Jt.oBox | apply Jt.oTurn | apply Jt.oIsi | apply Jt.oH2 | apply Jt.oRd | apply Jt.oConH | apply Jt.oSl | apply Jt.oTc | apply Jt.oTn | apply Jt.oSqSP | apply Jt.oChn | apply Jt.ChE.t | apply Jt.ChE.f | apply Jt.oSqN | apply Jt.oSqR
 | ((with_reducible first | apply Jt.oGet | apply Jt.oPeek | apply Jt.oLen | apply Jt.oSet | apply Jt.oTake | apply Jt.oIxO | apply Jt.oRdL | apply Jt.oOwn | apply Jt.oTg | apply Jt.oApp | apply Jt.oSqA | apply Jt.oPop);exact rfl)
 | ((with_reducible first | apply Jt.oCall | apply Jt.oCallF);exact rfl;with_reducible assumption)
 | ((with_reducible apply Jt.oLift);first | with_reducible assumption | exact rfl)
 | ((with_reducible apply Jt.BxE.mk);exact rfl;exact rfl;first | with_reducible assumption | exact K02.m_law_take _ _ (by omega) (by omega))
 | ((with_reducible apply Jt.ApE.mk);exact rfl;first | assumption | (simp only [List.length_map,List.length_append,List.length_cons,List.length_nil];omega))
 | ((with_reducible apply Jt.PpE.mk);exact rfl;omega;with_reducible assumption)
 | ((with_reducible apply Jt.IxE.mk);exact rfl;first | with_reducible assumption | exact rfl)
 | ((with_reducible show _=_);exact rfl) | refine And.intro rfl ?_ | refine Jt.oL rfl ?_ | ((with_reducible apply Jt.oT);exact rfl) | ((with_reducible apply Jt.oF);exact rfl) | ((with_reducible apply Jt.oT);first | assumption | exact decide_eq_true (by assumption)) | ((with_reducible apply Jt.oF);first | assumption | exact decide_eq_false (by assumption))))
namespace K02
open PySem L2 Jt
theorem qA (neg:Bool) (xs:List D):jS neg (.tup xs) (.tup [])=some (.bl (if neg then !xs.isEmpty else xs.isEmpty)):=by cases xs <;> simp [jS,g6,dz,dz.go]
theorem zL (neg:Bool) (k:Nat) (ls:List Nat):DV neg (.int (k:Int)) (.lst (lD ls))=some (.bl (if neg then !decide (k ∈ ls) else decide (k ∈ ls))):=Fi neg k ls
theorem zq {L:List Nat} {i:Nat} (h:i < L.length):jk (.lst (lD L)) (.int (i:Int))=some (.int ((L.getD i 0:Nat):Int)):=kJ h
theorem Gw {a b:List Nat} (h:a.length + b.length ≤ 100):wj (.lst (lD a)) (.lst (lD b))=some (lD (a ++ b)):= by
 show C8 _ _=_
 unfold C8
 rw [if_pos (by simp [lD];omega)]
 simp [lD]
theorem Bq {p q:List Nat} (h:p.Perm q) (hq:q.Pairwise (· < ·)) (hl:p.length ≤ 60):sortI (lD p)=some (lD q):= by
 have e:b_ (p.map fun (i:Nat)=>(i:Int))=q.map fun (i:Nat)=>(i:Int):= by
  refine (iL (h.symm.map _) ?_).symm
  rw [List.pairwise_map]
  exact hq.imp fun {a b} (q:a < b)=>by omega
 unfold sortI
 rw [ic]
 simp only [e]
 rw [if_pos (by rw [List.length_map];omega)]
 simp [lD]
section
variable {hs:List (List Int)}
theorem sd (m:Int) (h7:∀h ∈ hs,h.length ≤ 7) {a b:Nat} (ha:a < hs.length) (hb:b < hs.length):cg qy qa [bt m hs,.int (a:Int),.int (b:Int)]=some (hD (eT hs a b)):= by
 apply bL
 show Ok qa [.pu (bt m hs),.pu (.int (a:Int)),.pu (.int (b:Int))] _
 dsimp only [qa,pj]
 have e1:=cK m hs
 have ga:=lj ha
 have gb:=lj hb
 have g7:(G hs a).length ≤ 7:= by
  have:G hs a=hs[a]:=by simp [G,ha]
  rw [this];exact h7 _ (List.getElem_mem ha)
 rfl'
 refine bx (G hs a) .int (fun c=>if decide (c ∈ G hs b)=true then some (.int c) else none) rfl (by rfl') (by omega) (fun c _=>?_) ?_
 .have d:=uD false c (G hs b)
  show Ok (cN _ _ _ _) _ _
  by_cases q:c ∈ G hs b
  .simp only [q,decide_true] at d ⊢;rfl'
  .simp only [q,decide_false] at d ⊢;rfl'
 .rw [bQ]
  rfl'
noncomputable abbrev lf (hs:List (List Int)) (t:Nat):List Nat:=oJ (mt hs) hs.length t
noncomputable abbrev rr (hs:List (List Int)):List Nat:=iH (mt hs) hs.length
noncomputable abbrev DY (hs:List (List Int)) (r:Nat):D:=.tup (lD (pc (dj (mt hs) hs.length) hs.length r))
inductive PO (lay:D) (hs:List (List Int)):Nat->DS->Prop
 | mk (k t:Nat) (x3 x4:Jt.Slot) (hk:k + t=(rr hs).length):PO lay hs k [.pu lay,.pu (.lst (lD (lf hs t))),.ow false (((rr hs).take t).map (DY hs)),x3,x4]
inductive PJ (lay:D) (hs:List (List Int)) (t:Nat) (fd:List D):Nat->DS->Prop
 | mk (k a:Nat) (p:List Nat) (hk:k + a=hs.length) (B:Bf (mt hs) hs.length t a p):PJ lay hs t fd k [.pu lay,.pu (.lst (lD (lf hs t))),.ow false fd,.pu (.lst (lD p)),.pu (.int (a:Int))]
theorem tX (hs:List (List Int)):(rr hs).length ≤ hs.length:= by
 have:=List.length_filter_le (fun l=>decide ((dj (mt hs) hs.length).getD l 0=l)) (List.range hs.length)
 rw [List.length_range] at this
 exact this
theorem uh (hs:List (List Int)) (t:Nat):(lf hs t).length ≤ hs.length:= by
 have:=List.length_filter_le (fun k=>decide ((dj (mt hs) hs.length).getD k 0 ∉ (rr hs).take t)) (List.range hs.length)
 rw [List.length_range] at this
 exact this
theorem AE {lay:D} {t:Nat} {fd:List D} (h6:hs.length ≤ 6) (ec:∀{a b:Nat},a < hs.length->b < hs.length->cg qy qa [lay,.int (a:Int),.int (b:Int)]=some (hD (eT hs a b))) {k a:Nat} {p:List Nat} (hk:k + 1 + a=hs.length) (B:Bf (mt hs) hs.length t a p) (ha:a < p.length) {Q:Fl->DS->Prop}
  (hQ:∀δ,PJ lay hs t fd k δ->Q .nx δ) :
  Ok (d6 (td 3 (do let xs <- (Aj wj (do let x <- (ck 3);pure (Hn.th x)) (do let x <- (do let xs <- (fe 5 1 (do let x <- (ck 1);lift (d9 x)) (cN (hV 5) (rX (m2 (DV true) (ck 5) (ck 3) >>= lB) ((m2 (jS true) (mC (dH 3 (cg qy qa)) (bw (ck 0) (bw (m2 jk (ck 3) (ck 4)) (bw (ck 5) (pure []))))) (iy (pure []))) >>= lB)) (ck 5)));pure (D.lst xs));pure (Hn.th x)));pure (D.lst xs)))
   (td 4 (m2 gP (ck 4) (pure (.int 1))))) [.pu lay,.pu (.lst (lD (lf hs t))),.ow false fd,.pu (.lst (lD p)),.pu (.int (a:Int))] Q:= by
 have hl:=uh hs t
 have hp:=B.len
 have ea:=zq ha
 have hpa:p.getD a 0 < hs.length:= by
  have:p.getD a 0=p[a]:=by simp [List.getD_eq_getElem?_getD,ha]
  rw [this]
  exact (dD.mp (B.sub _ (List.getElem_mem ha)).1).1
 rfl'
 refine bx (lf hs t) (fun (k:Nat)=>.int (k:Int)) (fun k=>if (decide (k ∉ p) && mt hs (p.getD a 0) k)=true then some (.int (k:Int)) else none) rfl (by rfl') (by omega) (fun k hk=>?_) ?_
 .have d:=zL true k p
  have hk':=(dD.mp hk).1
  have e:=ec hpa hk'
  have z:jS true (hD (eT hs (p.getD a 0) k)) (.tup [])=_:=qA true ((eT hs (p.getD a 0) k).map .int)
  show Ok (cN _ _ _ _) _ _
  by_cases q:k ∈ p
  .simp only [q,decide_true,if_true,Bool.not_true] at d
   have:(decide (k ∉ p) && mt hs (p.getD a 0) k)=false:=by simp [q]
   rw [this]
   rfl'
  .simp only [q,decide_false,if_true,Bool.not_false] at d
   have:(decide (k ∉ p) && mt hs (p.getD a 0) k) = !(((eT hs (p.getD a 0) k).map D.int).isEmpty):=by simp [q,mt]
   rw [this]
   simp only [if_true] at z
   cases w:((eT hs (p.getD a 0) k).map D.int).isEmpty with
   | true=>rw [w,Bool.not_true] at z;rfl'
   | false=>rw [w,Bool.not_false] at z;rfl'
 .rw [bQ]
  have gl:p.length + ((lf hs t).filter fun k=>decide (k ∉ p) && mt hs (p.getD a 0) k).length ≤ 100:= by
   have:=List.length_filter_le (fun k=>decide (k ∉ p) && mt hs (p.getD a 0) k) (lf hs t)
   omega
  have g:wj (.lst (lD p)) (.lst (List.map (fun (k:Nat)=>D.int (k:Int)) _))=_:=Gw gl
  have ad:gP (.int (a:Int)) (.int 1)=some (.int ((a + 1:Nat):Int)):=by rw [fu];simp
  rfl'
  exact hQ _ (.mk k (a + 1) _ (by omega) (B.step (nY hs) ha))
theorem nj (m:Int) (h7:∀h ∈ hs,h.length ≤ 7) (h6:hs.length ≤ 6):i_ AO EW [bt m hs]=some ((Ar (mt hs) hs.length).map fun p=>.tup (lD p)):= by
 apply uv
 show Ok EW [.pu (bt m hs),.un,.un,.un,.un] _
 dsimp only [EW,zO]
 have e1:=cK m hs
 have ec:=fun {a b:Nat} (ha:a < hs.length) (hb:b < hs.length)=>sd m h7 ha hb
 have hn:(hs.length:Int) < 100000:=by omega
 have hr:nu [.int ((hs.map hD).length:Int)]=some (lD (List.range hs.length)):=by simp [nu,hn,kA]
 have rl:=tX hs
 generalize bt m hs=lay at *
 have l0:lf hs 0=List.range hs.length:= by
  unfold lf oJ
  simp
 rfl'
 refine cX (fun δ=>∃x1 x3 x4,δ=[.pu lay,x1,.ow false ((rr hs).map (DY hs)),x3,x4]) ?_ ?_
 .refine nU (PO lay hs) (fun k δ h=>?_) 8 (rr hs).length _ (by omega) (by rw [<- l0];exact .mk _ 0 .un .un rfl)
  rcases h with ⟨t,x3,x4,hk⟩
  have d:=jJ true (lD (lf hs t))
  simp only [if_true] at d
  rfl'
  refine ⟨fun q=>?_,fun q=>?_⟩
  .have ht:t < (rr hs).length:= by
    refine Nat.lt_of_le_of_ne (by omega) fun z=>?_
    subst z
    rw [show lf hs (rr hs).length=[] from AR] at q
    cases q
   obtain ⟨r,er⟩:=pL ht
   have e0:jk (.lst (lD (lf hs t))) (.int 0)=some (.int ((rr hs)[t]:Int)):= by
    have z:jk (.lst (lD (lf hs t))) (.int 0)=some (.int (((lf hs t).getD 0 0:Nat):Int)):=zq (by rw [show lf hs t=_ from er];exact Nat.succ_pos _)
    rw [z,show lf hs t=_ from er];rfl
   refine ⟨k - 1,by omega,?_⟩
   rfl'
   refine cX (fun δ=>∃p,Bf (mt hs) hs.length t p.length p∧δ=[.pu lay,.pu (.lst (lD (lf hs t))),.ow false (((rr hs).take t).map (DY hs)),.pu (.lst (lD p)),.pu (.int (p.length:Int))]) ?_ ?_
   .refine nU (PJ lay hs t (((rr hs).take t).map (DY hs))) (fun j δ h=>?_) 8 hs.length _ (by omega) (.mk _ 0 [(rr hs)[t]] rfl (Bf.one ht))
    rcases h with ⟨a,p,hj,B⟩
    have dl:=yK (a:Int) ((lD p).length:Int)
    have ll:(lD p).length=p.length:=by simp [lD]
    rfl'
    refine ⟨fun q=>?_,fun q=>?_⟩
    .have ha:a < p.length:=by have:=of_decide_eq_true q;omega
     have hp:=B.len
     exact ⟨j - 1,by omega,AE h6 ec (by omega) B ha fun δ h=>⟨rfl,h⟩⟩
    .have ha:a=p.length:=by have:=of_decide_eq_false q;have:=B.le;omega
     subst ha
     exact ⟨rfl,p,B,rfl⟩
   .rintro _ ⟨p,B,rfl⟩
    have hp:=B.len
    have hl:=uh hs t
    have al:(((rr hs).take t).map (DY hs)).length ≤ 100000:=by rw [List.length_map,List.length_take];omega
    have so:=Bq (B.perm (nY hs) ht) (List.Pairwise.filter _ List.pairwise_lt_range) (by omega)
    rfl'
    refine bx (lf hs t) (fun (k:Nat)=>.int (k:Int)) (fun k=>if decide (k ∉ p)=true then some (.int (k:Int)) else none) rfl (by rfl';all_goals rfl) (by omega) (fun k hk=>?_) ?_
    .have d:=zL true k p
     show Ok (cN _ _ _ _) _ _
     by_cases q:k ∈ p
     .simp only [q,decide_true,if_true,Bool.not_true,not_true,decide_false] at d ⊢;rfl'
     .simp only [q,decide_false,if_true,Bool.not_false,not_false_eq_true,decide_true] at d ⊢;rfl'
    .rw [bQ,show ((lf hs t).filter fun k=>decide (k ∉ p))=lf hs (t + 1) from B.next (nY hs) ht]
     rfl'
     have e:((rr hs).take t).map (DY hs) ++ [.tup (lD (pc (dj (mt hs) hs.length) hs.length (rr hs)[t]))]=((rr hs).take (t + 1)).map (DY hs):= by
      rw [List.take_add_one,List.getElem?_eq_getElem ht,List.map_append];rfl
     show PO _ _ _ [_,_,.ow false (_ ++ [_]),_,_]
     rw [e]
     exact .mk _ (t + 1) _ _ (by omega)
  .have ht:t=(rr hs).length:= by
    refine Nat.le_antisymm (by omega) (Nat.le_of_not_lt fun z=>?_)
    obtain ⟨r,er⟩:=pL z
    rw [show lf hs t=_ from er] at q
    cases q
   subst ht
   rw [List.take_length]
   exact ⟨rfl,_,_,_,rfl⟩
 .rintro _ ⟨x1,x3,x4,rfl⟩
  rfl'
  simp [Ar,rr,iH,DY]
end
section
variable {α β:Type} {δ:DS}
inductive XE (f:α->Jt.M (β ⊕ Addr)) (Q:β ⊕ Addr->DS->Prop):α ⊕ Addr->DS->Prop
 | a {a:α} {o:DS} (h:Ok (f a) o Q):XE f Q (.inl a) o
 | c {C:Addr} {o:DS} (q:Q (.inr C) o):XE f Q (.inr C) o
theorem Dm{f:α->Jt.M (β⊕Addr)}{Q:β⊕Addr->DS->Prop}(h:Ok x δ (XE f Q)):Ok (bX x f) δ Q:=
 bj.mpr (h.mono λ _ _ h=>by cases h with|a h=>exact h|c q=>simp_all)
inductive SE (g:Jt.M (Fl ⊕ Addr)) (Q:Fl ⊕ Addr->DS->Prop):Fl ⊕ Addr->DS->Prop
 | nx {o:DS} (h:Ok g o Q):SE g Q (.inl .nx) o
 | rt {d:D} {o:DS} (q:Q (.inl (.rt d)) o):SE g Q (.inl (.rt d)) o
 | c {C:Addr} {o:DS} (q:Q (.inr C) o):SE g Q (.inr C) o
theorem kz(h:Ok f δ (SE g Q)):Ok (FQ f g) δ Q:=by refine Dm (h.mono λ _ _ h=>?_);cases h with
 |nx h=>exact .a h
 |rt q=>exact .a (oPure q)
 |c q=>exact .c q
theorem Dj{Q:α⊕Addr->DS->Prop}(h:Ok f δ λ a o=>Q (.inl a) o):Ok (GV f) δ Q:=bj.mpr (h.mono λ _ _ q=>oPure q)
theorem HH{fs:Jt.M (List D)}{Q:Fl⊕Addr->DS->Prop}(h:Ok fs δ λ ds o=>ds.length<=100000/\Q (.inr C) o):Ok (yL C fs) δ Q:=
 oBind (h.mono λ _ _ q=>oBind (gn.mpr ⟨q.1,oPure q.2⟩))
theorem Hc(h:Ok f δ λ x o=>Ok I o λ r C=>match r with| .inl xs=>Q (.inl (x::xs)) C| .inr A=>Q (.inr A) C):Ok (tj (GV f) I) δ Q:=by refine Dm (Dj (h.mono λ x o h=> .a (Dm (h.mono λ r C q=>?_))));cases r with
 |inl xs=>exact .a (oPure q)
 |inr A=>exact .c q
theorem gK{body:Jt.M (Fl⊕Addr)}{ds:List D}{r:D⊕Addr}(h:Ok body (entry N ds) λ z _=>match r with| .inl d=>z= .inl (.rt d)| .inr C=>z= .inr C):eO N body ds=some r:=by obtain⟨z,o,e,q⟩:=h;unfold eO;rw[e];cases r with
 |inl d=>simp_all
 |inr C=>subst q;rfl
theorem CU{body:Jt.M (Fl⊕Addr)}{ds:List D}(h:Ok body (entry N ds) λ z _=>z= .inl .nx):eO N body ds=some (.inl .non):=by obtain⟨z,o,e,rfl⟩:=h;unfold eO;rw[e]
theorem Fz {ie:Nat} {kn:Addr->Option Str} {fx:Jt.M (Fl ⊕ Addr)} {Q:Fl->DS->Prop} {C:Addr} {w:Str} (hk:kn C=some w) (h:Ok fx δ fun r o=>r=.inr C∧o[ie]? = some .un∧Q (.rt (.str w)) o):Ok (vo ie kn fx) δ Q:= by
 obtain ⟨r,o,e,rfl,h1,q⟩:=h
 exact ⟨_,_,by unfold vo;rw [e];simp only [hk,h1],q⟩
theorem FV {ie:Nat} {kn:Addr->Option Str} {fx:Jt.M (Fl ⊕ Addr)} {Q:Fl->DS->Prop} {d:D} (h:Ok fx δ fun r o=>r=.inl (.rt d)∧Q (.rt d) o):Ok (vo ie kn fx) δ Q:= by
 obtain ⟨r,o,e,rfl,q⟩:=h
 exact ⟨_,_,by unfold vo;rw [e],q⟩
end
section
variable {hs:List (List Int)} {m:Int}
theorem xU (C:Addr) (x:D):eO tR (ql C) [bt m hs,x]=some (if cc hs.length x then .inl .non else .inr C):= by
 have e:=xu x ((hs.map hD).length:Int)
 rw [show ((hs.map hD).length:Int)=hs.length by rw [List.length_map]] at e
 have ed:fk [.tup (hs.map hD)]=some (.int hs.length):=by show some (D.int ((hs.map hD).length:Int))=_;rw [List.length_map]
 have e1:=cK m hs
 cases q:cc hs.length x with
 | true=>
  rw [q] at e
  apply CU
  show Ok (ql C) [.pu (bt m hs),.pu x] _
  refine kz ?_
  rfl'
  refine .nx ?_
  rfl'
 | false=>
  rw [q] at e
  apply gK
  show Ok (ql C) [.pu (bt m hs),.pu x] _
  refine kz ?_
  rfl'
  refine kz (HH ?_)
  rfl'
  exact .c (.c rfl)
theorem KP {δ:DS} {Q:Fl ⊕ Addr->DS->Prop} {i j:Nat} {lay x:D} {r:D ⊕ Addr} {N:List Str} {b:Jt.M (Fl ⊕ Addr)} (h1:δ[i]? = some (.pu lay)) (h2:δ[j]? = some (.pu x)) (e:eO N b [lay,x]=some r) (q:XE (fun _=>pure (.inl Fl.nx)) Q r δ) :
  Ok (bX (bX (tj (GV (ck i)) (tj (GV (ck j)) (pure (.inl [])))) fun ds=>lift (if ds.length=2 then eO N b ds else none)) fun _=>pure (.inl .nx)) δ Q:= by
 refine Dm (Dm (Hc (oGet h1 (Hc (oGet h2 (oPure (.a ?_)))))))
 exact oLift e q
theorem D_ (C:Addr) (h6:hs.length ≤ 6) (x:D):eO uk (pE C) [bt m hs,x]=some (if cc hs.length x=true∧hs.length ≠ 1 then .inl (bt m (hs.eraseIdx (match x with | .int i=>i.toNat | _=>0))) else .inr C):= by
 cases q:cc hs.length x with
 | false=>
  have e:eO tR (ql C) [bt m hs,x]=some (.inr C):=by rw [xU,q];rfl
  rw [if_neg (fun z=>by cases z.1)]
  apply gK
  show Ok (pE C) [.pu (bt m hs),.pu x,.un,.un] _
  refine kz (KP rfl rfl e ?_)
  exact .c (.c rfl)
 | true=>
  have e:eO tR (ql C) [bt m hs,x]=some (.inl .non):=by rw [xU,q];rfl
  obtain ⟨g,rfl,hg⟩:∃g:Nat,x=.int (g:Int)∧g < hs.length:= by
   cases x with
   | int i=>
    simp only [cc,Bool.and_eq_true,decide_eq_true_eq] at q
    exact ⟨i.toNat,by rw [Int.toNat_of_nonneg q.1],by omega⟩
   | _=>cases q
  apply gK
  show Ok (pE C) [.pu (bt m hs),.pu (.int (g:Int)),.un,.un] _
  refine kz (KP rfl rfl e (.a (oPure (.nx (kz (Dj ?_))))))
  show Ok _ [.pu (.tup [.int m,.tup (hs.map hD)]),_,_,_] _
  rfl'
  refine .nx (kz ?_)
  have ed:fk [.tup (hs.map hD)]=some (.int hs.length):=by show some (D.int ((hs.map hD).length:Int))=_;rw [List.length_map]
  have e1:=eR false (hs.length:Int) 1
  by_cases q1:hs.length=1
  .rw [if_neg (by simp [q1])]
   simp only [q1] at e1 ed
   have e1:dA false (.int ((1:Nat):Int)) (.int 1)=some (.bl true):=by rw [eR];rfl
   rfl'
   refine kz (HH ?_)
   rfl'
   exact .c (.c rfl)
  .rw [if_pos ⟨rfl,q1⟩]
   have e1:dA false (.int (hs.length:Int)) (.int 1)=some (.bl false):= by
    rw [e1]
    have:¬ ((hs.length:Int)=1):=by omega
    simp [this]
   have c1:uc (.tup (hs.map hD)) none (some (g:Int))=some (.tup ((hs.take g).map hD)):= by
    show some (D.tup (cutD _ _ _))=_
    rw [jh,List.map_take]
   have c2:uc (.tup (hs.map hD)) (some ((g + 1:Nat):Int)) none=some (.tup ((hs.drop (g + 1)).map hD)):= by
    show some (D.tup (cutD _ _ _))=_
    rw [f6,List.map_drop]
   have c3:j2 (.tup ((hs.take g).map hD)) (.tup ((hs.drop (g + 1)).map hD))=some (.tup ((hs.eraseIdx g).map hD)):= by
    show (if ((hs.take g).map hD).length + ((hs.drop (g + 1)).map hD).length ≤ 100000 then some (D.tup (_ ++ _)) else none)=_
    rw [if_pos (by simp;omega),List.eraseIdx_eq_take_drop_succ,List.map_append]
   have c4:gP (.int (g:Int)) (.int 1)=some (.int ((g + 1:Nat):Int)):=by simp [gP,dE]
   rfl'
   refine .nx (kz (Dj ?_))
   rfl'
   refine .rt ?_
   rfl
end
section
variable {M:Nat} {os:List Nat} {hs:List (List Int)}
theorem xo (g:Good M os) (h6:hs.length ≤ 6) (H:∀h ∈ hs,jy M h) (h7:∀h ∈ hs,h.length ≤ 7):cg mx pq [.tup (hs.map hD),.dic (lX 0 os)]=some (.tup ((nm os hs).map hD)):=Ej (hs:=hs) (places:=.dic (lX 0 os)) (pf:=pl os) (fun h hh c hc=>by
 have b:=(H h hh).2.2 c hc
 obtain ⟨k,rfl⟩:∃k:Nat,c=(k:Int):=⟨c.toNat,by omega⟩
 show (iG (lX 0 os) (k:Int)).map D.int=_
 rw [jW os 0 k (j8 g (by omega))]
 simp [pl]) h6 h7
noncomputable def oH (M:Nat) (x:D):Prop:=∃os,x=.tup (lD os)∧Good M os
theorem vt (C:Addr) (g:Good M os) (hM:M ≤ 7) (h6:hs.length ≤ 6) (H:∀h ∈ hs,jy M h) (h7:∀h ∈ hs,h.length ≤ 7):eO kK (pQ C) [bt M hs,.tup (lD os)]=some (.inl (bt M (nm os hs))):= by
 have sh:Short (.tup (lD os)):=fun xs e=>by cases e;rw [fw,g.1];omega
 obtain ⟨b,e0,hb⟩:=Jd M sh
 have hb:b=true:=hb.mpr ⟨os,rfl,g⟩
 subst hb
 have mv:=xo g h6 H h7
 apply gK
 show Ok (pQ C) [.pu (.tup [.int M,.tup (hs.map hD)]),.pu (.tup (lD os)),.un,.un] _
 refine kz (Dj ?_)
 rfl'
 refine .nx (kz ?_)
 rfl'
 refine .nx (kz (Dj ?_))
 rfl'
 refine yB (lX 0 os) (fun p=>.tup [.int p.2,.int p.1]) (fun p=>some (p.1,p.2)) rfl ?_ (by rw [nJ,g.1];omega) (fun p _=>?_) ?_
 .have e:nT [.tup (lD os)]=some (bF ((lX 0 os).map fun p=>.tup [.int p.2,.int p.1])):=by rw [<- kQ];rfl
  rfl'
 .unfold p9
  simp [p8,iU,pk]
 .rw [oo (lX 0 os) [] (by rw [List.nil_append,ko];exact gg.mpr g.2.1),List.nil_append]
  rfl'
  exact .rt rfl
theorem v7 (C:Addr) {x:D} (sh:Short x) (n:¬ oH M x):eO kK (pQ C) [bt M hs,x]=some (.inr C):= by
 obtain ⟨b,e0,hb⟩:=Jd M sh
 have hb:b=false:=Bool.eq_false_iff.mpr fun z=>n (hb.mp z)
 subst hb
 apply gK
 show Ok (pQ C) [.pu (.tup [.int M,.tup (hs.map hD)]),.pu x,.un,.un] _
 refine kz (Dj ?_)
 rfl'
 refine .nx (kz ?_)
 rfl'
 refine kz (HH ?_)
 rfl'
 exact .c (.c rfl)
theorem gp (x:D):cg HI Gd [x]=some (.bl (isInt x)):= by
 apply bL
 show Ok Gd [.pu x] _
 dsimp only [Gd,xY]
 cases x <;> simp [bJ,iV,isInt]
theorem jG:∀{xs:List D},xs.all isInt=true->∃ns:List Int,xs=ns.map .int
 | [],_=>⟨[],rfl⟩
 | .int i :: r,h=>by
  rw [List.all_cons,Bool.and_eq_true] at h
  obtain ⟨ns,rfl⟩:=jG h.2
  exact ⟨i :: ns,rfl⟩
theorem jI (os:List Nat):lD os=(os.map fun (i:Nat)=>(i:Int)).map .int:=by simp [lD]
theorem vq (M:Nat) (ns:List Int):b_ ns=(List.range M).map (fun (i:Nat)=>(i:Int)) ↔ oH M (.tup (ns.map .int)):= by
 constructor
 .intro e
  have p:ns.Perm ((List.range M).map fun (i:Nat)=>(i:Int)):=by rw [<- e];exact (dR ns).symm
  have hb:∀i ∈ ns,0 ≤ i∧i < (M:Int):=fun i hi=>by
   obtain ⟨k,hk,rfl⟩:=List.mem_map.mp (p.mem_iff.mp hi)
   have:=List.mem_range.mp hk
   omega
  have en:(ns.map Int.toNat).map (fun (i:Nat)=>(i:Int))=ns:= by
   rw [List.map_map]
   conv=>rhs;rw [<- List.map_id ns]
   exact List.map_congr_left fun i hi=>by have:=hb i hi;simp;omega
  refine ⟨ns.map Int.toNat,?_,?_,?_,?_⟩
  .rw [jI,en]
  .rw [List.length_map,p.length_eq,List.length_map,List.length_range]
  .have:((ns.map Int.toNat).map fun (i:Nat)=>(i:Int)).Nodup:= by
    rw [en,p.nodup_iff]
    exact gg.mpr List.nodup_range
   exact gg.mp this
  .intro i hi
   obtain ⟨k,hk,rfl⟩:=List.mem_map.mp hi
   have:=hb k hk
   omega
 .rintro ⟨os,e,h1,h2,h3⟩
  have e:=D.tup.inj e
  rw [jI] at e
  have e:ns=os.map fun (i:Nat)=>(i:Int):= by
   have:=congrArg (List.map fun d=>match d with | D.int i=>i | _=>0) e
   simpa [List.map_map,Function.comp_def] using this
  subst e
  have p:os.Perm (List.range M):=(List.perm_ext_iff_of_nodup h2 List.nodup_range).mpr fun c=>⟨fun z=>List.mem_range.mpr (h3 c z),fun z=>j8 ⟨h1,h2,h3⟩ (List.mem_range.mp z)⟩
  refine (iL (p.symm.map _) ?_).symm
  rw [List.pairwise_map]
  exact List.pairwise_lt_range.imp fun {a b} (q:a < b)=>by omega
theorem qO:∀ps:List (Int × Int),oA (ps.map fun p=>.tup [.int p.1,.int p.2])=some ps
 | []=>rfl
 | p :: r=>by
  show (oA (r.map fun p=>.tup [.int p.1,.int p.2])).map _=_
  rw [qO r]
  rfl
theorem oV (hM:M ≤ 7) (h6:hs.length ≤ 6) (H:∀h ∈ hs,jy M h) (h7:∀h ∈ hs,h.length ≤ 7) {x:D} (sh:Short x) :
  (∀os,x=.tup (lD os)->Good M os->cg o4 ka [bt M hs,x]=some (bt M (nm os hs)))∧(¬ oH M x->cg o4 ka [bt M hs,x]=some (.str "! order")):= by
 by_cases ht:∃xs,x=.tup xs
 .obtain ⟨xs,rfl⟩:=ht
  have hl:=sh xs rfl
  have a1:oE [.lst (xs.map fun d=>.bl (isInt d))]=some (.bl (xs.all isInt)):= by
   show (boolsOf _).map _=_
   rw [eB]
   simp
  by_cases U:xs.all isInt=true
  .obtain ⟨ns,rfl⟩:=jG U
   rw [U] at a1
   rw [List.length_map] at hl
   have es:=gY ns hl
   have e0:pS (bt M hs) (.int 0)=some (.int M):=rfl
   have e1:pS (bt M hs) (.int 1)=some (.tup (hs.map hD)):=rfl
   have hn:(M:Int) < 100000:=by omega
   have er:nu [.int (M:Int)]=some (((List.range M).map fun (i:Nat)=>(i:Int)).map .int):=by simp [nu,hn,kA,lD]
   have dq:=vE true (b_ ns) ((List.range M).map fun (i:Nat)=>(i:Int))
   have oi:=vq M ns
   by_cases q:b_ ns=(List.range M).map fun (i:Nat)=>(i:Int)
   .rw [decide_eq_true q] at dq
    simp only [if_true,Bool.not_true] at dq
    refine ⟨fun os e g=>?_,fun z=>absurd (oi.mp q) z⟩
    have e2:=D.tup.inj e
    rw [e2] at a1 es ⊢
    have pd:nc [.lst ((lX 0 os).map fun p=>.tup [.int p.1,.int p.2])]=some (.dic (lX 0 os)):= by
     show (oA _).map _=_
     rw [qO]
     have:=oo (lX 0 os) [] (by rw [List.nil_append,ko];exact gg.mpr g.2.1)
     rw [List.nil_append] at this
     exact congrArg (fun z=>some (D.dic z)) this
    have hp:∀h ∈ hs,∀c ∈ h,pS (.dic (lX 0 os)) (.int c)=some (.int (pl os c)):=fun h hh c hc=>by
     have b:=(H h hh).2.2 c hc
     obtain ⟨k,rfl⟩:∃k:Nat,c=(k:Int):=⟨c.toNat,by omega⟩
     show (iG (lX 0 os) (k:Int)).map D.int=_
     rw [jW os 0 k (j8 g (by omega))]
     simp [pl]
    have en:nT [.tup (lD os)]=some (bF ((lX 0 os).map fun p=>.tup [.int p.2,.int p.1])):=by rw [<- kQ];rfl
    have hlo:os.length ≤ 60:=by rw [g.1];omega
    apply bL
    show Ok ka [.pu (bt M hs),.pu (.tup (lD os)),.un] _
    dsimp only [ka,oY]
    generalize bt M hs=lay at *
    refine jt ?_
    rfl'
    refine bx (lD os) id (fun d=>some (.bl (isInt d))) rfl (by rfl';simp) (by rw [fw];omega) (fun d _=>?_) ?_
    .have e:=gp d
     show Ok (cN _ _ _ d) _ _
     rfl'
    rw [List.filterMap_eq_map']
    rfl'
    refine jt ?_
    rfl'
    refine bx (lX 0 os) (fun p=>.tup [.int p.2,.int p.1]) (fun p=>some (.tup [.int p.1,.int p.2])) rfl (by rfl') (by rw [nJ];omega) (fun p _=>?_) ?_
    .show Ok (cN _ _ _ _) _ _
     rfl'
    rw [List.filterMap_eq_map']
    rfl'
    refine bx hs hD (fun h=>some (hD (b_ (h.map (pl os))))) rfl (by rfl') (by omega) (fun h hh=>?_) ?_
    .have l7:=h7 h hh
     show Ok (cN _ _ _ _) _ _
     rfl'
     refine bx h .int (fun c=>some (.int (pl os c))) rfl (by rfl') (by omega) (fun c hc=>?_) ?_
     .have:=hp h hh c hc
      show Ok (cN _ _ _ _) _ _
      rfl'
     .have so:sortI (h.map fun c=>D.int (pl os c))=some ((b_ (h.map (pl os))).map .int):= by
       have:=gY (h.map (pl os)) (by rw [List.length_map];omega)
       rw [List.map_map] at this
       exact this
      rw [List.filterMap_eq_map']
      rfl'
    .rw [List.filterMap_eq_map']
     rfl'
     show Fl.rt (.tup [.int M,.tup (hs.map fun h=>hD (b_ (h.map (pl os))))])=.rt (bt M (nm os hs))
     unfold bt nm
     rw [List.map_map]
     rfl
   .rw [decide_eq_false q] at dq
    simp only [if_true,Bool.not_false] at dq
    refine ⟨fun os e g=>absurd (oi.mpr ⟨os,e,g⟩) q,fun _=>?_⟩
    apply bL
    show Ok ka [.pu (bt M hs),.pu (.tup (ns.map .int)),.un] _
    dsimp only [ka,oY]
    generalize bt M hs=lay at *
    refine jt ?_
    rfl'
    refine bx (ns.map .int) id (fun d=>some (.bl (isInt d))) rfl (by rfl';simp) (by rw [List.length_map];omega) (fun d _=>?_) ?_
    .have e:=gp d
     show Ok (cN _ _ _ d) _ _
     rfl'
    rw [List.filterMap_eq_map']
    rfl'
    refine jt ?_
    rfl'
  .have U:=Bool.not_eq_true _ ▸ U
   rw [U] at a1
   refine ⟨fun os e g=>?_,fun _=>?_⟩
   .rw [D.tup.inj e,jI] at U
    have:((os.map fun (i:Nat)=>(i:Int)).map D.int).all isInt=true:=List.all_eq_true.mpr fun d hd=>by
     obtain ⟨_,_,rfl⟩:=List.mem_map.mp hd
     rfl
    rw [this] at U
    cases U
   .apply bL
    show Ok ka [.pu (bt M hs),.pu (.tup xs),.un] _
    dsimp only [ka,oY]
    refine jt ?_
    rfl'
    refine bx xs id (fun d=>some (.bl (isInt d))) rfl (by rfl';simp) (by omega) (fun d _=>?_) ?_
    .have e:=gp d
     show Ok (cN _ _ _ d) _ _
     rfl'
    rw [List.filterMap_eq_map']
    rfl'
 .have C:(!bJ .tup x)=true:=by cases x <;> first | rfl | exact absurd ⟨_,rfl⟩ ht
  refine ⟨fun os e _=>absurd ⟨_,e⟩ ht,fun _=>?_⟩
  apply bL
  show Ok ka [.pu (bt M hs),.pu x,.un] _
  dsimp only [ka,oY]
  refine jt ?_
  rfl'
end
section
variable {A B:Nat} {hs gs:List (List Int)}
noncomputable abbrev zW (A:Nat) (gs:List (List Int)):List (List Int):=gs.map fun h=>h.map fun c=>(A:Int) + c
theorem wM {n:Nat} {c:Int} (h0:0 ≤ c) (h1:c < n):pS (.lst (bZ A n)) (.int c)=some (.int ((A:Int) + c)):= by
 obtain ⟨k,rfl⟩:∃k:Nat,c=(k:Int):=⟨c.toNat,by omega⟩
 show jM _ _=_
 rw [atI_nat _ _ (by simp [bZ];omega)]
 simp [bZ]
theorem Bo {m:Int} {h:List Int} (H:jy m h) (a:Int):b_ (h.map fun c=>a + c)=h.map fun c=>a + c:= by
 refine (iL (List.Perm.refl _) ?_).symm
 rw [List.pairwise_map]
 exact H.2.1.imp fun {x y} (q:x < y)=>by omega
theorem IL (h6:gs.length ≤ 6) (H:∀h ∈ gs,jy B h) (h7:∀h ∈ gs,h.length ≤ 7):cg mx pq [.tup (gs.map hD),.lst (bZ A B)]=some (.tup ((zW A gs).map hD)):= by
 have mv:=Ej (hs:=gs) (places:=.lst (bZ A B)) (pf:=fun c=>(A:Int) + c) (fun h hh c hc=>wM ((H h hh).2.2 c hc).1 ((H h hh).2.2 c hc).2) h6 h7
 rw [mv,show (gs.map fun h=>b_ (h.map fun c=>(A:Int) + c))=zW A gs from List.map_congr_left fun h hh=>Bo (H h hh) _]
theorem BQ (hA:A ≤ 7) (hB:B ≤ 7):pN [.int (A:Int),.int ((A + B:Nat):Int)]=some (bZ A B):= by
 have gen:∀i j:Int,i < 100000->0 ≤ i->j < 100000->0 ≤ j->pN [.int i,.int j]=some (bZ i (j - i).toNat):=fun i j h0 h1 h2 h3=>by
  simp only [pN]
  rw [if_pos ⟨by omega,by omega,by omega,by omega⟩]
 rw [gen _ _ (by omega) (by omega) (by omega) (by omega),show (((A + B:Nat):Int) - (A:Int)).toNat=B by omega]
theorem rF (h1:hs.length ≤ 6) (h2:gs.length ≤ 6):j2 (.tup (hs.map hD)) (.tup (gs.map hD))=some (.tup ((hs ++ gs).map hD)):= by
 show (if (hs.map hD).length + (gs.map hD).length ≤ 100000 then some (D.tup (_ ++ _)) else none)=_
 rw [if_pos (by simp;omega),List.map_append]
noncomputable abbrev xc (A B:Nat) (hs gs:List (List Int)):Prop:=A + B ≤ 7∧hs.length + gs.length ≤ 6
theorem Ih (C:Addr) (hA:A ≤ 7) (hB:B ≤ 7) (h1:hs.length ≤ 6) (h2:gs.length ≤ 6) (H:∀h ∈ gs,jy B h) (h7:∀h ∈ gs,h.length ≤ 7) :
  eO y9 (xE C) [bt A hs,bt B gs]=some (if xc A B hs gs then .inl (bt ((A + B:Nat):Int) (hs ++ zW A gs)) else .inr C):= by
 have mv:=IL (A:=A) h2 H h7
 have er:=BQ hA hB
 have a0:=eY (A:Int) hs
 have a1:=cK (A:Int) hs
 have b0:=eY (B:Int) gs
 have b1:=cK (B:Int) gs
 have ad:gP (.int (A:Int)) (.int (B:Int))=some (.int ((A + B:Nat):Int)):=by rw [fu];simp
 have ec:=rF (hs:=hs) (gs:=zW A gs) h1 (by rw [List.length_map];exact h2)
 have g1:=ja ((A + B:Nat):Int) 7
 have g2:=ja (((hs ++ zW A gs).map hD).length:Int) 6
 have ll:((hs ++ zW A gs).map hD).length=hs.length + gs.length:=by simp
 have ed:fk [.tup ((hs ++ zW A gs).map hD)]=some (.int (((hs ++ zW A gs).map hD).length:Int)):=rfl
 apply gK
 show Ok (xE C) [.pu (bt A hs),.pu (bt B gs),.un,.un] _
 generalize bt A hs=la at *
 generalize bt B gs=lb at *
 generalize hz:((A + B:Nat):Int)=z at *
 refine kz (Dj ?_)
 rfl'
 refine .nx (kz (Dj ?_))
 rfl'
 refine .nx (kz ?_)
 by_cases q1:A + B ≤ 7
 .rw [decide_eq_false (by omega)] at g1
  by_cases q2:hs.length + gs.length ≤ 6
  .rw [decide_eq_false (by omega)] at g2
   rw [if_pos ⟨q1,q2⟩]
   rfl'
   refine .nx (kz (Dj ?_))
   rfl'
   exact .rt rfl
  .rw [decide_eq_true (by omega)] at g2
   rw [if_neg fun w=>q2 w.2]
   rfl'
   refine kz (HH ?_)
   rfl'
   exact .c (.c rfl)
 .rw [decide_eq_true (by omega)] at g1
  rw [if_neg fun w=>q1 w.1]
  rfl'
  refine kz (HH ?_)
  rfl'
  exact .c (.c rfl)
theorem oj (hA:A ≤ 7) (hB:B ≤ 7) (h1:hs.length ≤ 6) (h2:gs.length ≤ 6) (h7:∀h ∈ gs,h.length ≤ 7) :
  cg v5 wB [bt A hs,bt B gs]=some (if xc A B hs gs then bt ((A + B:Nat):Int) (hs ++ zW A gs) else .str "! many"):= by
 have a0:=eY (A:Int) hs
 have a1:=cK (A:Int) hs
 have b0:=eY (B:Int) gs
 have b1:=cK (B:Int) gs
 have ad:gP (.int (A:Int)) (.int (B:Int))=some (.int ((A + B:Nat):Int)):=by rw [fu];simp
 have e0:=rF h1 h2
 have ec:=rF (hs:=hs) (gs:=zW A gs) h1 (by rw [List.length_map];exact h2)
 have g1:=ja ((A + B:Nat):Int) 7
 have g2:=ja (((hs ++ gs).map hD).length:Int) 6
 have ll:((hs ++ gs).map hD).length=hs.length + gs.length:=by simp
 have ed:fk [.tup ((hs ++ gs).map hD)]=some (.int (((hs ++ gs).map hD).length:Int)):=rfl
 apply bL
 show Ok wB [.pu (bt A hs),.pu (bt B gs)] _
 dsimp only [wB,yO]
 generalize bt A hs=la at *
 generalize bt B gs=lb at *
 generalize hz:((A + B:Nat):Int)=z at *
 refine jt ?_
 by_cases q1:A + B ≤ 7
 .rw [decide_eq_false (by omega)] at g1
  by_cases q2:hs.length + gs.length ≤ 6
  .rw [decide_eq_false (by omega)] at g2
   rw [if_pos ⟨q1,q2⟩]
   rfl'
   refine bx gs hD (fun h=>some (hD (h.map fun c=>(A:Int) + c))) rfl (by rfl') (by omega) (fun h hh=>?_) ?_
   .have l7:=h7 h hh
    show Ok (cN _ _ _ _) _ _
    rfl'
    refine bx h .int (fun c=>some (.int ((A:Int) + c))) rfl (by rfl') (by omega) (fun c hc=>?_) ?_
    .have da:=fu (A:Int) c
     show Ok (cN _ _ _ _) _ _
     rfl'
    .rw [List.filterMap_eq_map']
     have ee:d7 [.lst (h.map fun c=>D.int ((A:Int) + c))]=some (hD (h.map fun c=>(A:Int) + c)):=by rw [cq,hD,List.map_map];rfl
     rfl'
   .rw [List.filterMap_eq_map']
    have ee:d7 [.lst (gs.map fun h=>hD (h.map fun c=>(A:Int) + c))]=some (.tup ((zW A gs).map hD)):=by rw [cq,List.map_map];rfl
    rfl'
  .rw [decide_eq_true (by omega)] at g2
   rw [if_neg fun w=>q2 w.2]
   rfl'
 .rw [decide_eq_true (by omega)] at g1
  rw [if_neg fun w=>q1 w.1]
  rfl'
end
section
variable {C1 C2 C3:Addr} {kn:Addr->Option Str} {lay x d:D}
noncomputable def Told (kn:Addr->Option Str) (d:D):D ⊕ Addr->Prop
 | .inl y=>d=y
 | .inr C=>∃w,kn C=some w∧d=.str w
theorem ask {i:Int} {mf:List D->Option (D ⊕ Addr)} {r:D ⊕ Addr} {d:D} (hi:t8 (eO kK (pQ C2)) (eO y9 (xE C3)) (eO uk (pE C1)) (.int i)=some mf) (e:mf [lay,x]=some r)
  (hr:Told kn d r):cg r6 (pH C1 C2 C3 kn) [.int i,lay,x]=some d:= by
 apply bL
 show Ok (pH C1 C2 C3 kn) [.pu (.int i),.pu lay,.pu x,.un] _
 dsimp only [pH,xg]
 have el:(if [lay,x].length=2 then mf [lay,x] else none)=some r:=by rw [if_pos (show [lay,x].length=2 from rfl),e]
 cases r with
 | inl y=>
  obtain rfl:d=y:=hr
  refine FV (d:=d) (kz (Dm ?_))
  rfl'
  refine Dm (Hc ?_)
  rfl'
  refine Hc ?_
  rfl'
  refine .a (oLift el (.a (oPure (.rt ⟨rfl,rfl⟩))))
 | inr C=>
  obtain ⟨w,hw,rfl⟩:=hr
  refine Fz hw (kz (Dm ?_))
  rfl'
  refine Dm (Hc ?_)
  rfl'
  refine Hc ?_
  rfl'
  refine .a (oLift el (.c (.c ⟨rfl,rfl,rfl⟩)))
end
theorem same_int (n:Nat) (a:Int):dn (n + 1) [.int a,.int a]=some (.bl true):= by
 show cg pF (jx (dn n)) _=_
 apply bL
 show Ok _ [.pu (.int a),.pu (.int a)] _
 unfold jx
 simp [bJ,iV,jc,jN,dA,flat,gZ]
theorem same_str (n:Nat) (a:Str):dn (n + 1) [.str a,.str a]=some (.bl true):= by
 show cg pF (jx (dn n)) _=_
 apply bL
 show Ok _ [.pu (.str a),.pu (.str a)] _
 unfold jx
 have e:jS false (.str a) (.str a)=some (.bl true):= by
  show dA false (.str a) (.str a)=_
  simp [dA,flat,gZ,t9]
 simp [bJ,iV,jc,e,iE]
theorem fS (n:Nat) (b:Bool) (xs:List D) (hn:xs.length ≤ 100000) (h:∀x ∈ xs,dn n [x,x]=some (.bl true)):dn (n + 1) (if b=true then [.tup xs,.tup xs] else [.lst xs,.lst xs])=some (.bl true):= by
 show cg pF (jx (dn n)) _=_
 apply bL
 cases b
 .show Ok _ [.pu (.lst xs),.pu (.lst xs)] _
  unfold jx
  simp [bJ,iV,jc,jN,dA,flat,gZ,fk]
  refine bx xs (fun x=>.tup [x,x]) (fun _=>some (.bl true)) rfl ?_ hn (fun x hx=>?_) ?_
  .simp [j5,nh,oX]
  .simp [dH,h x hx]
  .simp [oE,eB,List.filterMap_eq_map]
 .show Ok _ [.pu (.tup xs),.pu (.tup xs)] _
  unfold jx
  simp [bJ,iV,jc,jN,dA,flat,gZ,fk]
  refine bx xs (fun x=>.tup [x,x]) (fun _=>some (.bl true)) rfl ?_ hn (fun x hx=>?_) ?_
  .simp [j5,nh,oX]
  .simp [dH,h x hx]
  .simp [oE,eB,List.filterMap_eq_map]
theorem FY (n:Nat) (h:List Int) (hn:h.length ≤ 100000):dn (n + 2) [hD h,hD h]=some (.bl true) :=
 fS (n + 1) true (h.map .int) (by simpa using hn) fun x hx=>by
  obtain ⟨a,_,rfl⟩:=List.mem_map.mp hx
  exact same_int n a
theorem ke (m:Int) (hs:List (List Int)) (h6:hs.length ≤ 100000) (h7:∀h ∈ hs,h.length ≤ 100000):dn 4 [bt m hs,bt m hs]=some (.bl true) :=
 fS 3 true [.int m,.tup (hs.map hD)] (Nat.le_of_ble_eq_true rfl) fun x hx=>by
  rcases List.mem_cons.mp hx with rfl | hx
  .exact same_int 2 m
  .rw [List.mem_singleton.mp hx]
   exact fS 2 true (hs.map hD) (by simpa using h6) fun x hx=>by
    obtain ⟨h,hh,rfl⟩:=List.mem_map.mp hx
    exact FY 0 h (h7 h hh)
theorem Ag (ps:List (List Nat)) (h:ps.length ≤ 100000) (hp:∀p ∈ ps,p.length ≤ 100000):dn 4 [.lst (ps.map fun p=>.tup (lD p)),.lst (ps.map fun p=>.tup (lD p))]=some (.bl true) :=
 fS 3 false (ps.map fun p=>.tup (lD p)) (by simpa using h) fun x hx=>by
  obtain ⟨p,hp',rfl⟩:=List.mem_map.mp hx
  exact fS 2 true (lD p) (by rw [fw];exact hp p hp') fun x hx=>by
   rw [jI] at hx
   obtain ⟨a,_,rfl⟩:=List.mem_map.mp hx
   exact same_int 1 a
theorem g_ (xs:List D) (n:Int) (h:0 < xs.length):∃d ∈ xs,jk (.lst xs) (.int (n % (xs.length:Int)))=some d:= by
 obtain ⟨k,hk⟩:∃k:Nat,n % (xs.length:Int)=(k:Int):=⟨(n % (xs.length:Int)).toNat,by have:=Int.emod_nonneg n (show (xs.length:Int) ≠ 0 by omega);omega⟩
 have hl:k < xs.length:=by have:=Int.emod_lt_of_pos n (show (0:Int) < xs.length by omega);omega
 refine ⟨xs[k],List.getElem_mem hl,?_⟩
 rw [hk]
 exact atI_nat xs k hl
theorem v3 (n0:Int):∃d xs',gN D4 xA [.int n0] []=some (d,xs')∧Short d∧∃n:Int,xs' = [.int n]:= by
 apply iK
 show Ok xA [.ow true [.int n0],.un] _
 dsimp only [xA,qL]
 have et:=m_law_take n0 16 (by decide) (by decide)
 have d1:w8 (.int 1)=some (.int (-1)):=rfl
 rfl'
 generalize hL:([.non,.bl true,.int 7,.str "",.str "0",.tup [],.lst [],.dct,.tup [.int 1,.int 2],.tup [.int 0],.tup [.int 1,.int 0],.int (-1),.tup [.int 0,.int 1],.lst [.tup [.int 0,.int 1]],.bl false,.tup [.int 2,.tup [.tup [.int 0,.int 1]]]]:List D)=L
 have hlen:L.length=16:=by rw [<- hL];rfl
 obtain ⟨d,hd,e⟩:=g_ L n0 (by omega)
 have e:jk (.lst L) (.int (n0 % 16))=some d:=by rw [hlen] at e;exact e
 rfl'
 refine ⟨_,_,rfl,rfl,fun xs z=>?_,_,rfl⟩
 subst hL z
 simp only [List.mem_cons,List.not_mem_nil,or_false,reduceCtorEq,false_or,D.tup.injEq] at hd
 rcases hd with rfl | rfl | rfl | rfl | rfl | rfl <;> decide
theorem ji {xs:List D} (h:xs.length ≤ 60):Short (.tup xs):=fun ys e=>by rw [<- D.tup.inj e];exact h
theorem Eu {d:D} (h:∀xs,d ≠ .tup xs):Short d:=fun ys e=>absurd e (h ys)
theorem cat_t {xs ys:List D} (h:xs.length + ys.length ≤ 100):j2 (.tup xs) (.tup ys)=some (.tup (xs ++ ys)):= by
 show (if _ then some (D.tup (xs ++ ys)) else none)=_
 rw [if_pos (by omega)]
theorem j7 (n0:Int) (os:List Nat) (h1:1 ≤ os.length) (h7:os.length ≤ 7):∃d xs',gN Ea yJ [.int n0] [.tup (lD os)]=some (d,xs')∧Short d∧∃n:Int,xs' = [.int n]:= by
 apply iK
 show Ok yJ [.ow true [.int n0],.pu (.tup (lD os)),.un,.un,.un] _
 dsimp only [yJ,pV]
 have ed:fk [.tup (lD os)]=some (.int (os.length:Int)):=by show some (D.int ((lD os).length:Int))=_;rw [fw]
 have t0:=m_law_take n0 (os.length:Int) (by omega) (by omega)
 obtain ⟨a,ha,hl⟩:∃a:Nat,n0 % (os.length:Int)=(a:Int)∧a < os.length:=⟨(n0 % (os.length:Int)).toNat,by have:=Int.emod_nonneg n0 (show (os.length:Int) ≠ 0 by omega);omega,by have:=Int.emod_lt_of_pos n0 (show (0:Int) < os.length by omega);have:=Int.emod_nonneg n0 (show (os.length:Int) ≠ 0 by omega);omega⟩
 rw [ha] at t0
 generalize n0 / (os.length:Int)=n1 at *
 have t1:=m_law_take n1 7 (by decide) (by decide)
 have d1:w8 (.int 1)=some (.int (-1)):=rfl
 obtain ⟨o7,_,e7⟩:=g_ [.int (os.length:Int),.int (-1),.bl true,.non,.str "0",.tup [.int 0],.int 0] n1 (Nat.succ_pos _)
 have e7:jk (.lst [.int (os.length:Int),.int (-1),.bl true,.non,.str "0",.tup [.int 0],.int 0]) (.int (n1 % 7))=some o7:=e7
 generalize n1 / 7=n2 at *
 have ll:=fw os
 have ad:gP (.int (a:Int)) (.int 1)=some (.int ((a + 1:Nat):Int)):=by rw [fu];simp
 have c1:uc (.tup (lD os)) none (some (a:Int))=some (.tup ((lD os).take a)):=by show some (D.tup (cutD _ _ _))=_;rw [jh]
 have c2:uc (.tup (lD os)) (some ((a + 1:Nat):Int)) none=some (.tup ((lD os).drop (a + 1))):=by show some (D.tup (cutD _ _ _))=_;rw [f6]
 have c3:uc (.tup (lD os)) (some 1) none=some (.tup ((lD os).drop 1)):=by show some (D.tup (cutD _ (some ((1:Nat):Int)) _))=_;rw [f6]
 have c4:uc (.tup (lD os)) none (some 1)=some (.tup ((lD os).take 1)):=by show some (D.tup (cutD _ _ (some ((1:Nat):Int))))=_;rw [jh]
 have c5:uc (.tup (lD os)) (some (a:Int)) none=some (.tup ((lD os).drop a)):=by show some (D.tup (cutD _ _ _))=_;rw [f6]
 have k1:=cat_t (xs:=(lD os).take a) (ys:=[o7]) (by simp;omega)
 have k2:=cat_t (xs:=(lD os).take a ++ [o7]) (ys:=(lD os).drop (a + 1)) (by simp;omega)
 have k3:=cat_t (xs:=lD os) (ys:=(lD os).take 1) (by simp;omega)
 have k4:=cat_t (xs:=(lD os).drop a) (ys:=(lD os).take a) (by simp;omega)
 have rv:Hv (.tup (lD os))=some (.tup (lD os).reverse):=rfl
 obtain ⟨od,xs',eo,so,n3,rfl⟩:=v3 n2
 have t2:=m_law_take n3 8 (by decide) (by decide)
 have gc:wj (.lst [.tup ((lD os).take a ++ [o7] ++ (lD os).drop (a + 1)),.tup ((lD os).drop 1),.tup (lD os ++ (lD os).take 1),.lst (lD os),.tup (lD os).reverse]) (.lst [.tup ((lD os).drop a ++ (lD os).take a),.non,od])=some [.tup ((lD os).take a ++ [o7] ++ (lD os).drop (a + 1)),.tup ((lD os).drop 1),.tup (lD os ++ (lD os).take 1),.lst (lD os),.tup (lD os).reverse,.tup ((lD os).drop a ++ (lD os).take a),.non,od]:=rfl
 obtain ⟨d,hd,e8⟩:=g_ [.tup ((lD os).take a ++ [o7] ++ (lD os).drop (a + 1)),.tup ((lD os).drop 1),.tup (lD os ++ (lD os).take 1),.lst (lD os),.tup (lD os).reverse,.tup ((lD os).drop a ++ (lD os).take a),.non,od] n3 (Nat.succ_pos _)
 have e8:jk (.lst [.tup ((lD os).take a ++ [o7] ++ (lD os).drop (a + 1)),.tup ((lD os).drop 1),.tup (lD os ++ (lD os).take 1),.lst (lD os),.tup (lD os).reverse,.tup ((lD os).drop a ++ (lD os).take a),.non,od]) (.int (n3 % 8))=some d:=e8
 rfl'
 refine ⟨_,_,rfl,rfl,?_,_,rfl⟩
 simp only [List.mem_cons,List.not_mem_nil,or_false] at hd
 rcases hd with rfl | rfl | rfl | rfl | rfl | rfl | rfl | rfl
 .exact ji (by simp;omega)
 .exact ji (by simp;omega)
 .exact ji (by simp;omega)
 .exact Eu fun _ z=>nomatch z
 .exact ji (by simp;omega)
 .exact ji (by simp;omega)
 .exact Eu fun _ z=>nomatch z
 .exact so
theorem rR {M:Nat} (h:M ≤ 1000):i5 [.int (M:Int)]=some (bF (bZ 0 M)):= by
 have sM:dw M=true:=by simp [dw];omega
 simp [i5,sM]
theorem JY {i j:Nat} {fs:Jt.M (List D)} {g:Jt.M Fl} {δ:DS} {Q:Fl->DS->Prop} (h:Ok fs δ fun ds o=>∃a b,ds=[a,b]∧Nat.blt i o.length=true∧Nat.blt j o.length=true∧Ok g ((o.set i (.pu a)).set j (.pu b)) Q):Ok (d6 (FI i j fs) g) δ Q:= by
 refine cP.mpr ?_
 unfold FI
 refine oBind (h.mono fun ds o ⟨a,b,e,h1,h2,q⟩=>?_)
 subst e
 refine oBind (oSet h1 (oBind (oSet (by rw [List.length_set];exact h2) (oPure q))))
inductive LS (C:Jt.Slot):DS->Prop
 | mk (a1 a2 a3 a4 a5 a6 a7 a8 a9 aa ab ac:Jt.Slot):LS C [C,a1,a2,a3,a4,a5,a6,a7,a8,a9,aa,ab,ac]
inductive MS (C:D) (k n:Int) (la lb:D):DS->Prop
 | mk (a5 a6 a7 a8 a9 aa ab ac:Jt.Slot):MS C k n la lb [.pu C,.pu (.int k),.ow false [.int n],.pu la,.pu lb,a5,a6,a7,a8,a9,aa,ab,ac]
structure Lay (M:Nat) (hs:List (List Int)):Prop where
 m1:1 ≤ M
 m7:M ≤ 7
 h1:1 ≤ hs.length
 h6:hs.length ≤ 6
 ok:∀h ∈ hs,jy M h
theorem Lay.h7 {M:Nat} {hs:List (List Int)} (L:Lay M hs):∀h ∈ hs,h.length ≤ 7:=fun h hh=>(L.ok h hh).len (by have:=L.m1;omega) (by have:=L.m7;omega)
theorem Dv {M:Nat} {hs:List (List Int)} {os:List Nat} (L:Lay M hs):∀h ∈ nm os hs,h.length ≤ 100000:=fun h hh=>by
 obtain ⟨g,hg,rfl⟩:=List.mem_map.mp hh
 rw [iX,List.length_map]
 have:=L.h7 g hg
 omega
section
variable {C1 C2 C3:Addr} {kn:Addr->Option Str} (k1:kn C1=some "! head") (k2:kn C2=some "! order") (k3:kn C3=some "! many") {M:Nat} {hs:List (List Int)} (L:Lay M hs)
include k2 L in
theorem rG {x:D} (sh:Short x):∃d,cg r6 (pH C1 C2 C3 kn) [.int 0,bt M hs,x]=some d∧cg o4 ka [bt M hs,x]=some d∧dn 4 [d,d]=some (.bl true):= by
 obtain ⟨ly,ln⟩:=oV (hs:=hs) L.m7 L.h6 L.ok L.h7 sh
 by_cases q:oH M x
 .obtain ⟨os,rfl,g⟩:=q
  refine ⟨bt M (nm os hs),ask rfl (vt C2 g L.m7 L.h6 L.ok L.h7) rfl,ly os rfl g,ke _ _ ?_ (Dv L)⟩
  rw [nm,List.length_map]
  have:=L.h6
  omega
 .exact ⟨.str "! order",ask rfl (v7 C2 sh q) ⟨_,k2,rfl⟩,ln q,same_str 3 _⟩
include k3 L in
theorem fW {A:Nat} {gs:List (List Int)} (K:Lay A gs):∃d,cg r6 (pH C1 C2 C3 kn) [.int 1,bt M hs,bt A gs]=some d∧cg v5 wB [bt M hs,bt A gs]=some d∧dn 4 [d,d]=some (.bl true):= by
 have e1:=Ih (A:=M) (B:=A) (hs:=hs) (gs:=gs) C3 L.m7 K.m7 L.h6 K.h6 K.ok K.h7
 have e2:=oj (A:=M) (B:=A) (hs:=hs) (gs:=gs) L.m7 K.m7 L.h6 K.h6 K.h7
 by_cases q:xc M A hs gs
 .rw [if_pos q] at e1 e2
  refine ⟨_,ask rfl e1 rfl,e2,ke _ _ ?_ fun h hh=>?_⟩
  .rw [List.length_append,List.length_map]
   have:=L.h6
   have:=K.h6
   omega
  .rcases List.mem_append.mp hh with z | z
   .have:=L.h7 h z
    omega
   .obtain ⟨g,hg,rfl⟩:=List.mem_map.mp z
    rw [List.length_map]
    have:=K.h7 g hg
    omega
 .rw [if_neg q] at e1 e2
  exact ⟨_,ask rfl e1 ⟨_,k3,rfl⟩,e2,same_str 3 _⟩
include k1 L in
theorem oC {g:Nat} (hg:g < hs.length):∃d,cg r6 (pH C1 C2 C3 kn) [.int 2,bt M hs,.int (g:Int)]=some d∧d=(if hs.length=1 then .str "! head" else bt M (hs.eraseIdx g))∧dn 4 [d,d]=some (.bl true):= by
 have e:=D_ (m:=(M:Int)) C1 L.h6 (.int (g:Int))
 have hb:cc hs.length (.int (g:Int))=true:=ub hg
 by_cases q:hs.length=1
 .rw [if_neg fun z=>z.2 q] at e
  rw [if_pos q]
  exact ⟨_,ask rfl e ⟨_,k1,rfl⟩,rfl,same_str 3 _⟩
 .rw [if_pos ⟨hb,q⟩] at e
  have e:eO uk (pE C1) [bt M hs,.int (g:Int)]=some (.inl (bt M (hs.eraseIdx g))):=e
  rw [if_neg q]
  refine ⟨_,ask rfl e rfl,rfl,ke _ _ ?_ fun h hh=>?_⟩
  .have:=List.length_eraseIdx_le hs g
   have:=L.h6
   omega
  .have:=L.h7 h (List.mem_of_mem_eraseIdx hh)
   omega
include k1 L in
theorem qt {x:D} (h:cc hs.length x=false):cg r6 (pH C1 C2 C3 kn) [.int 2,bt M hs,x]=some (.str "! head"):= by
 have e:=D_ (m:=(M:Int)) C1 L.h6 x
 rw [if_neg fun z=>by rw [h] at z;cases z.1] at e
 exact ask rfl e ⟨_,k1,rfl⟩
end
theorem xm {d:D} {xs:List D} (h:LQ d xs):∃(M:Nat) (hs:List (List Int)) (n:Int),d=bt M hs∧xs=[.int n]∧Lay M hs:= by
 obtain ⟨m,hs,n,rfl,rfl,h1,h6,hm,hq⟩:=h
 obtain ⟨M,rfl⟩:∃M:Nat,m=(M:Int):=⟨m.toNat,by omega⟩
 exact ⟨M,hs,n,rfl,rfl,by omega,by omega,h1,h6,hq⟩
theorem E5 {ds:List D} (h:dn 4 ds=some (.bl true)) (hl:ds.length=2):vf 2 (dn 4) ds=some (.bl true):= by
 unfold vf
 rw [if_pos hl,h]
 rfl
theorem uO (C1 C2 C3:Addr) (kn:Addr->Option Str) (k1:kn C1=some "! head") (k2:kn C2=some "! order") (k3:kn C3=some "! many"):∀ns:List Int,ns.length ≤ 63->cg xI (zE C1 C2 C3 kn) [.lst (ns.map .int)]=some (.bl true):= by
 intro ns hns
 apply bL
 show Ok (zE C1 C2 C3 kn) [.pu (.lst (ns.map .int)),.un,.un,.un,.un,.un,.un,.un,.un,.un,.un,.un,.un] _
 dsimp only [zE,xr]
 obtain ⟨m,e1,m4⟩:∃m:Int,pZ [.int ((ns.map D.int).length:Int),.int 4]=some (.int m)∧m ≤ 4:=⟨_,rfl,by split <;> omega⟩
 obtain ⟨N,e2,N4⟩:∃N:Nat,wk [.int 1,.int m]=some (.int (N:Int))∧N ≤ 4:= by
  refine ⟨(if m > 1 then m else 1).toNat,?_,by split <;> omega⟩
  show some (D.int (if m > 1 then m else 1))=_
  rw [Int.toNat_of_nonneg (by split <;> omega)]
 have e3:=rR (M:=N) (by omega)
 refine AH (bZ 0 N) (fun _=>LS (.pu (.lst (ns.map .int)))) (by rfl') (.mk ..) ?_ ?_
 .rintro k hk _ ⟨a1,a2,a3,a4,a5,a6,a7,a8,a9,aa,ab,ac⟩
  rw [fB]
  obtain ⟨n,en⟩:=vn ns k
  obtain ⟨d,xs,el,q⟩:=hU n
  obtain ⟨M,hs,n1,rfl,rfl,L⟩:=xm q
  obtain ⟨d,xs,el2,q⟩:=hU n1
  obtain ⟨A,gs,n2,rfl,rfl,K⟩:=xm q
  have t0:=m_law_take n2 3 (by decide) (by decide)
  have b0:=eY (A:Int) gs
  have b1:=cK (A:Int) gs
  have c1:uc (.tup (gs.map hD)) none (some 2)=some (.tup ((gs.take 2).map hD)):= by
   show some (D.tup (cutD _ _ (some ((2:Nat):Int))))=_
   rw [jh,List.map_take]
  obtain ⟨lb,hlb,e4⟩:=g_ [bt A gs,bt A (gs.take 2),bt 1 [[0]]] n2 (Nat.succ_pos _)
  have e4:jk (.lst [bt A gs,.tup [.int A,.tup ((gs.take 2).map hD)],.tup [.int 1,.tup [.tup [.int 0]]]]) (.int (n2 % 3))=some lb:=e4
  obtain ⟨B,fs,rfl,F⟩:∃(B:Nat) (fs:List (List Int)),lb=bt B fs∧Lay B fs:= by
   simp only [List.mem_cons,List.not_mem_nil,or_false] at hlb
   rcases hlb with rfl | rfl | rfl
   .exact ⟨A,gs,rfl,K⟩
   .have:=K.h1
    have:=K.h6
    exact ⟨A,gs.take 2,rfl,K.m1,K.m7,by rw [List.length_take];omega,by rw [List.length_take];omega,fun h hh=>K.ok h (List.mem_of_mem_take hh)⟩
   .refine ⟨1,[[0]],rfl,by decide,by decide,by decide,by decide,fun h hh=>?_⟩
    rw [List.mem_singleton.mp hh]
    exact ⟨by decide,by decide,by decide⟩
  refine oSet rfl ?_
  rfl'
  refine JY ?_
  rfl'
  refine ⟨_,_,rfl,rfl,rfl,?_⟩
  rfl'
  have h1:=L.h1
  have h6:=L.h6
  have m1:=L.m1
  have m7:=L.m7
  have pc1:=Ip (M:Int) L.h7 L.h6
  have pc2:=nj (M:Int) L.h7 L.h6
  have pl:(Ar (mt hs) hs.length).length ≤ 6:= by
   have:=tX hs
   rw [show (Ar (mt hs) hs.length).length=(rr hs).length from List.length_map _]
   omega
  have sp:vf 2 (dn 4) [.lst ((Ar (mt hs) hs.length).map fun p=>.tup (lD p)),.lst ((Ar (mt hs) hs.length).map fun p=>.tup (lD p))]=some (.bl true):=E5 (Ag _ (by omega) fun p hp=>by
   obtain ⟨l,_,rfl⟩:=A5 hp
   have:=List.length_filter_le (fun k=>decide ((dj (mt hs) hs.length).getD k 0=l)) (List.range hs.length)
   rw [List.length_range] at this
   unfold pc
   omega) rfl
  have al:((Ar (mt hs) hs.length).map fun p=>D.tup (lD p)).length ≤ 100000:=by rw [List.length_map];omega
  have r2:i5 [.int 2]=some (bF (bZ 0 2)):=rR (M:=2) (by omega)
  have a0:=eY (M:Int) hs
  have a1':=cK (M:Int) hs
  have named:=fun {x:D} (sh:Short x)=>rG (C1:=C1) (C3:=C3) k2 L sh
  have bes1:=fW (C1:=C1) (C2:=C2) k3 L F
  have bes2:=fW (C1:=C1) (C2:=C2) k3 F L
  have bes3:=fW (C1:=C1) (C2:=C2) k3 F F
  have wo:=fun {g:Nat} (hg:g < hs.length)=>oC (C2:=C2) (C3:=C3) k1 L hg
  have od:=fun {x:D} (h:cc hs.length x=false)=>qt (C2:=C2) (C3:=C3) k1 L h
  generalize hla:bt M hs=la at *
  generalize hlb:bt B fs=lb at *
  generalize D.lst (ns.map D.int)=C at *
  generalize n2 / 3=n3 at *
  refine AH (bZ 0 2) (fun _=>MS C k n3 la lb) (by rfl') (.mk ..) ?_ ?_
  .rintro j hj _ ⟨a5,a6,a7,a8,a9,aa,ab,ac⟩
   refine oSet rfl ?_
   rfl'
   refine jt ?_
   rfl'
   exact .mk ..
  rintro _ ⟨a5,a6,a7,a8,a9,aa,ab,ac⟩
  obtain ⟨d,xs,eo,⟨os,rfl,g⟩,n4,rfl⟩:=o8 n3 (Z:=M) m7
  obtain ⟨x1,xs,eb1,s1,n5,rfl⟩:=j7 n4 os (by rw [g.1];exact m1) (by rw [g.1];exact m7)
  obtain ⟨x2,xs,eb2,s2,n6,rfl⟩:=j7 n5 os (by rw [g.1];exact m1) (by rw [g.1];exact m7)
  have s0:Short (.tup (lD os)):=ji (by rw [fw,g.1];omega)
  rfl'
  refine Hx [.tup (lD os),x1,x2] (fun _=>MS C k n6 la lb) (by rfl';exact .mk ..) ?_ ?_
  .rintro j hj _ ⟨a5,a6,a7,a8,a9,aa,ab,ac⟩
   have sj:Short ([.tup (lD os),x1,x2][j]):= by
    have:=List.getElem_mem hj
    simp only [List.mem_cons,List.not_mem_nil,or_false] at this
    rcases this with z | z | z <;> rw [z] <;> assumption
   generalize [D.tup (lD os),x1,x2][j]=x at sj
   obtain ⟨d,ea,el3,es⟩:=named sj
   refine oSet rfl ?_
   rfl'
   exact .mk ..
  rintro _ ⟨a5,a6,a7,a8,a9,aa,ab,ac⟩
  refine AH [.tup [la,lb],.tup [lb,la],.tup [lb,lb]] (fun _=>MS C k n6 la lb) (by rfl') (.mk ..) ?_ ?_
  .rintro j hj _ ⟨a5,a6,a7,a8,a9,aa,ab,ac⟩
   obtain ⟨y1,y2,hy,d,ea,el3,es⟩:∃y1 y2:D,[D.tup [la,lb],D.tup [lb,la],D.tup [lb,lb]][j]=D.tup [y1,y2]∧∃d,cg r6 (pH C1 C2 C3 kn) [.int 1,y1,y2]=some d∧cg v5 wB [y1,y2]=some d∧dn 4 [d,d]=some (.bl true):= by
    have:=List.getElem_mem hj
    simp only [List.mem_cons,List.not_mem_nil,or_false] at this
    rcases this with z | z | z
    .exact ⟨_,_,z,bes1⟩
    .exact ⟨_,_,z,bes2⟩
    .exact ⟨_,_,z,bes3⟩
   rw [hy]
   rfl'
   exact .mk ..
  rintro _ ⟨a5,a6,a7,a8,a9,aa,ab,ac⟩
  have rh:=rR (M:=hs.length) (by omega)
  have ed:fk [.tup (hs.map hD)]=some (.int (hs.length:Int)):=by show some (D.int ((hs.map hD).length:Int))=_;rw [List.length_map]
  refine AH (bZ 0 hs.length) (fun _=>MS C k n6 la lb) (by rfl') (.mk ..) ?_ ?_
  .rintro j hj _ ⟨a5,a6,a7,a8,a9,aa,ab,ac⟩
   have hj':j < hs.length:=by simpa [bZ] using hj
   rw [fB]
   obtain ⟨d,ea,hd,es⟩:=wo hj'
   have c1:uc (.tup (hs.map hD)) none (some (j:Int))=some (.tup ((hs.take j).map hD)):= by
    show some (D.tup (cutD _ _ _))=_
    rw [jh,List.map_take]
   have c2:uc (.tup (hs.map hD)) (some ((j + 1:Nat):Int)) none=some (.tup ((hs.drop (j + 1)).map hD)):= by
    show some (D.tup (cutD _ _ _))=_
    rw [f6,List.map_drop]
   have c3:j2 (.tup ((hs.take j).map hD)) (.tup ((hs.drop (j + 1)).map hD))=some (.tup ((hs.eraseIdx j).map hD)):= by
    show (if ((hs.take j).map hD).length + ((hs.drop (j + 1)).map hD).length ≤ 100000 then some (D.tup (_ ++ _)) else none)=_
    rw [if_pos (by simp;omega),List.eraseIdx_eq_take_drop_succ,List.map_append]
   have c4:gP (.int (j:Int)) (.int 1)=some (.int ((j + 1:Nat):Int)):=by simp [gP,dE]
   have c5:=qA true ((hs.eraseIdx j).map hD)
   have le:=List.length_eraseIdx_of_lt hj'
   refine oSet rfl ?_
   by_cases q:hs.length=1
   .have z:(hs.eraseIdx j).map hD=[]:=by rw [List.map_eq_nil_iff,<- List.length_eq_zero_iff];omega
    rw [if_pos q] at hd
    subst hd
    rw [z] at c3 c5
    have c5:jS true (.tup []) (.tup [])=some (.bl false):=c5
    rfl'
    exact .mk ..
   .have z:((hs.eraseIdx j).map hD).isEmpty=false:= by
     cases w:(hs.eraseIdx j).map hD with
     | nil=>rw [List.map_eq_nil_iff,<- List.length_eq_zero_iff] at w;omega
     | cons=>rfl
    rw [if_neg q] at hd
    subst hd
    rw [z] at c5
    have c5:jS true (.tup ((hs.eraseIdx j).map hD)) (.tup [])=some (.bl true):=c5
    have es:dn 4 [bt M (hs.eraseIdx j),.tup [.int (M:Int),.tup ((hs.eraseIdx j).map hD)]]=some (.bl true):=es
    have ix:jk (.tup [.int (M:Int),.tup ((hs.eraseIdx j).map hD)]) (.int 1)=some (.tup ((hs.eraseIdx j).map hD)):=rfl
    rfl'
    exact .mk ..
  rintro _ ⟨a5,a6,a7,a8,a9,aa,ab,ac⟩
  have t6:=m_law_take n6 6 (by decide) (by decide)
  have d1:w8 (.int 1)=some (.int (-1)):=rfl
  obtain ⟨x,hx,e6⟩:=g_ [.int (hs.length:Int),.int (-1),.bl true,.non,.str "0",.tup [.int 0]] n6 (Nat.succ_pos _)
  have e6:jk (.lst [.int (hs.length:Int),.int (-1),.bl true,.non,.str "0",.tup [.int 0]]) (.int (n6 % 6))=some x:=e6
  have ex:=od (x:=x) (by
   simp only [List.mem_cons,List.not_mem_nil,or_false] at hx
   rcases hx with rfl | rfl | rfl | rfl | rfl | rfl
   .simp [cc]
   .simp [cc]
   all_goals rfl)
  have eq:dA true (.str "! head") (.str "! head")=some (.bl false):=rfl
  rfl'
  exact .mk ..
 .rintro _ ⟨⟩
  rfl'
noncomputable abbrev jn:Stmt:=top 37
abbrev qk:List Str:=["_law_e","_law_kinds","_law_words"]
theorem z9:bT qk ["_law_e"] (aX jn):=⟨rfl,rfl,rfl,by decide +kernel,rfl,by decide +kernel,by decide +kernel⟩
noncomputable def kl:List Str:=["layout","head","column","tree","order","tables","deed","number","row","text","bound","many"]
section
variable {P:Program} {w:World} {K:PySem.W.Frag} {mg:Str->Option Value} {base:Heap}
noncomputable abbrev xk (P:Program) (w:World) (K:PySem.W.Frag) (mg:Str->Option Value) (base:Heap) (f:Addr) (cdv:Value) (A:Around) (outer:List Env) (s:Shared) (H:Hp) (a:Addr) (o:Obj):Cx:=Hu P w K mg base qk "_law_kind" (aX jn) f cdv A outer s H a o
structure qi (K:PySem.W.Frag) (mg:Str->Option Value) (D:Addr) (cs:List Addr) (bs:List Bool):Prop where
 mi:mg "isinstance" = none
 mv:mg "ValueError" = none
 mt:mg "int" = none
 mu:mg "sum" = none
 ve:PySem.W.kitOne K (.ref D) (.type "ValueError")=some true
 ms:(["NoLayout","NoHead","NoColumn","NoTree","NoOrder","NoTables","NoDeed","NoNumber","NoRow","NoText","Bound","TooMany"]:List Str).map mg=cs.map fun C=>some (.ref C)
 ks:cs.map (fun C=>PySem.W.kitOne K (.ref D) (.ref C))=bs.map some
noncomputable def EU (a:Addr) (p q r t:Bool):TE:=CV (cx (nz 0 a p) (cx (nz 0 a q) (cx (nz 0 a r) (cx (nz 0 a t) i8))))
structure JC (X:Cx) (es:List Expr) (t:TA):Prop where
 un:PA X es t
theorem CY {X:Cx}:JC X [] i8:=⟨cb⟩
theorem fE {X:Cx} {es:List Expr} {t:TA} {x:Str} {j:Nat} {p:Pos} (h:JC X es t):JC X (.Constant (.str x) j p :: es) (cx (tC (.str x)) t):=⟨bh mJ h.un p_⟩
noncomputable def IJ:V->V->Hp->VK->Prop:=fun x y H Q=>∃i j,x=.str i∧y=.str j∧i.length + j.length ≤ sizeLine∧Q (.str (i ++ j)) H
noncomputable def z0 (K:PySem.W.Frag) (a:Addr) (b1 b2 b3 b4 b5 b6 b7 b8 b9 b10 b11 b12:Bool):TS :=
 si (lP (EU a b1 b2 b3 b4) (eD 1)) (si (lP (rN ya (fK 1) (EU a b5 b6 b7 b8)) (eD 1)) (si (lP (rN ya (fK 1) (EU a b9 b10 b11 b12)) (eD 1))
  (si (HG (KA (HN (fun σ H Q=>nz 0 a true σ H fun x H'=>∃k,AF K x H' k∧Q k H')) (qx (rN Fj (wA kU (cx (gQ (lz K (fK 1)) 1 (eD 3) vO (wA qg (cx (fK 3) i8))) i8)) (tC (.int 1))))) (wq (tC (.str "! none of the classes"))) D6)
  (si (lP (CV (cx (tC (.str "layout")) (cx (tC (.str "head")) (cx (tC (.str "column")) (cx (tC (.str "tree")) (cx (tC (.str "order")) (cx (tC (.str "tables")) (cx (tC (.str "deed")) (cx (tC (.str "number")) (cx (tC (.str "row")) (cx (tC (.str "text")) (cx (tC (.str "bound")) (cx (tC (.str "many")) i8))))))))))))) (eD 2))
  (wq (rN IJ (tC (.str "! ")) (rN (IU K) (fK 2) (KH K "list" uu (fK 1) (cx (tC (.bl true)) i8)))))))))
theorem yR (X:Cx) (y:Str) (es:List Expr) (t:TA) (rest:List Stmt) (r:TS) (a1 a2 a3:Pos) (hN:X.N.Nodup) (hi:X.N[2]? = some y) (hx:Loc X.env.scope y) (hf:X.fn y=true ∨ X.env.scope.names.lookup y=some .local) (h:JC X es t) (hr:kE X rest r) :
  kE X (.Assign [.Name y a1] (.List es a2) a3 :: rest) (si (lP (CV t) (eD 2)) r):=e_ (jf hN hi hx (iW h.un) uB hf) hr
theorem A0 {f D c1 c2 c3 c4 c5 c6 c7 c8 c9 c10 c11 c12:Addr} {b1 b2 b3 b4 b5 b6 b7 b8 b9 b10 b11 b12:Bool} {cdv:Value} {A:Around} {outer:List Env} {s:Shared} {H:Hp} {a:Addr} {o:Obj} (E:kq K D) (Z:qi K mg D [c1,c2,c3,c4,c5,c6,c7,c8,c9,c10,c11,c12] [b1,b2,b3,b4,b5,b6,b7,b8,b9,b10,b11,b12]) (z:Au (.ref D) o) (hh:A.handled=some (.ref a)) :
  kE (xk P w K mg base f cdv A outer s H a o) (bA jn) (z0 K a b1 b2 b3 b4 b5 b6 b7 b8 b9 b10 b11 b12):= by
 have ms:=Z.ms
 have ks:=Z.ks
 simp only [List.map_cons,List.map_nil,List.cons.injEq,and_true] at ms ks
 obtain ⟨m1,m2,m3,m4,m5,m6,m7,m8,m9,m10,m11,m12⟩:=ms
 obtain ⟨k1,k2,k3,k4,k5,k6,k7,k8,k9,k10,k11,k12⟩:=ks
 have mem:(a,o) ∈ (xk P w K mg base f cdv A outer s H a o).pn:=List.mem_cons_self
 have hd:Gr (xk P w K mg base f cdv A outer s H a o):= by
  refine ⟨a,o,⟨hh,?_⟩,mem⟩
  obtain ⟨t,T,rfl⟩:=z
  exact ⟨_,rfl,rfl⟩
 have isx:∀{y:Str} {C:Addr} {b:Bool} {p1 p2 p3 p4:Pos},PySem.W.kitOne K (.ref D) (.ref C)=some b->mg y=some (.ref C)->Gl (xk P w K mg base f cdv A outer s H a o) y->(y == ("__debug__":Str))=false->PE (xk P w K mg base f cdv A outer s H a o) (.Call (.Name "isinstance" p1) [.Name "_law_e" p2,.Name y p3] [] p4) (nz 0 a b) :=
  fun {y C b p1 p2 p3 p4} e m g d=>Gb (X:=xk P w K mg base f cdv A outer s H a o) (i:=0) (x:="_law_e") E mem z e Z.mi m rfl (.inl rfl) rfl g (by decide) (by decide) d
 have isv:∀{p1 p2 p3 p4:Pos},PE (xk P w K mg base f cdv A outer s H a o) (.Call (.Name "isinstance" p1) [.Name "_law_e" p2,.Name "ValueError" p3] [] p4) (nz 0 a true) :=
  fun {p1 p2 p3 p4}=>BZ (X:=xk P w K mg base f cdv A outer s H a o) (i:=0) (x:="_law_e") E mem z Z.ve Z.mi Z.mv (by decide +kernel) rfl (.inl rfl) rfl rfl (by decide) (by decide) (by decide) (by decide)
 have kn:∀{p:Pos},PE (xk P w K mg base f cdv A outer s H a o) (.Name "_law_kinds" p) (fK 1):=fun {p}=>cY rfl (.inl rfl)
 have wn:∀{p:Pos},PE (xk P w K mg base f cdv A outer s H a o) (.Name "_law_words" p) (fK 2):=fun {p}=>cY rfl (.inl rfl)
 have nd:=z9.nd
 unfold z0
 refine e_ ?_ ?_
 .exact jf (X:=xk P w K mg base f cdv A outer s H a o) (i:=1) (x:="_law_kinds") nd rfl (.inl rfl) (iW (bh (isx k1 m1 rfl rfl) (bh (isx k2 m2 rfl rfl) (bh (isx k3 m3 rfl rfl) (bh (isx k4 m4 rfl rfl) cb))))) rfl (.inr rfl)
 refine e_ ?_ ?_
 .exact jf (X:=xk P w K mg base f cdv A outer s H a o) (i:=1) (x:="_law_kinds") nd rfl (.inl rfl) (oM mZ kn (iW (bh (isx k5 m5 rfl rfl) (bh (isx k6 m6 rfl rfl) (bh (isx k7 m7 rfl rfl) (bh (isx k8 m8 rfl rfl) cb)))))) rfl (.inr rfl)
 refine e_ ?_ ?_
 .exact jf (X:=xk P w K mg base f cdv A outer s H a o) (i:=1) (x:="_law_kinds") nd rfl (.inl rfl) (oM mZ kn (iW (bh (isx k9 m9 rfl rfl) (bh (isx k10 m10 rfl rfl) (bh (isx k11 m11 rfl rfl) (bh (isx k12 m12 rfl rfl) cb)))))) rfl (.inr rfl)
 refine e_ ?_ ?_
 .refine Ep (PW.pt (Eb (wQ (qp isv (by intro _;rfl))) (yD (mM yM (dr (uZ hd) rfl Z.mu (by decide +kernel) (bh (zV (N':=qk) (own:=["_law_kind_here"]) hd (vh kn) (fun _ _ _ _=>tw (i:=3) (x:="_law_kind_here") (show (qk ++ (["_law_kind_here"]:List Str):List Str).Nodup by decide +kernel) rfl (.inl rfl)) (fun _ _ _ _=>tP) (fun _ _ _ _=>eC we rfl Z.mt (by decide +kernel) (bh (cY (i:=3) rfl (.inl rfl)) cb))) cb)) mL rfl)))) (jH (jX mJ)) ur
 refine @yR (xk P w K mg base f cdv A outer s H a o) "_law_words" _ _ _ _ _ _ _ nd rfl (.inl rfl) (.inr rfl) (fE (fE (fE (fE (fE (fE (fE (fE (fE (fE (fE (fE CY)))))))))))) ?_
 exact jH (jX (oM rJ mJ (tu n_ wn (yC PySem.F.plainAttrs_list PySem.F.slot_list_index PySem.F.type_list_index vw kn (bh Ec cb)) (fun _ _=>rfl))))
theorem g8 {H:Hp} {p:Addr} {v:HO}:upd H p v p=some v:=by simp [upd]
theorem jE {H:Hp} {p q:Addr} {v u:HO} (h:H q=some u) (hp:H p=none):upd H p v q=some u:= by
 have:q ≠ p:=fun e=>by rw [e,hp] at h;cases h
 simp [upd,this,h]
theorem gB {H H':Hp} {p:Addr} {v:HO} (s:fM H H') (h:H' p=none):fM H (upd H' p v):=fun b o e=>jE (s b o e) h
theorem BX {σ:L2.St} {H:Hp} {l:Addr} {bs:List Bool} {i0 n:Nat} {Q:Bool->Hp->Prop} (hσ:σ[i0]? = some (some (.ref l))) (hn:σ.length=n) (hl:H l=some (.lst (bs.map V.bl))) (hlen:bs.length ≤ 100) (hc:bs.count true=1) (hQ:∀H',fM H H' -> Q false H') :
  qx (rN Fj (wA kU (cx (gQ (lz K (fK i0)) 1 (eD n) vO (wA qg (cx (fK n) i8))) i8)) (tC (.int 1))) σ H Q:= by
 have key:gQ (lz K (fK i0)) 1 (eD n) vO (wA qg (cx (fK n) i8)) σ H (fun x H1=>kU [x] H1 fun y H2=>Fj y (.int 1) H2 fun z H3=>∃b,z=.bl b∧Q b H3):= by
  refine y4 hσ hn hl hlen fun l' H6 sm h6=>⟨l',bs,rfl,h6,hlen,?_⟩
  rw [hc]
  exact ⟨rfl,false,rfl,hQ H6 sm⟩
 exact key
theorem wZ {a:Addr} {b1 b2 b3 b4 b5 b6 b7 b8 b9 b10 b11 b12:Bool} {Q:VK} {H:Hp} {j:Nat} {wd:Str} (hc:[b1,b2,b3,b4,b5,b6,b7,b8,b9,b10,b11,b12].count true=1) (hj:[b1,b2,b3,b4,b5,b6,b7,b8,b9,b10,b11,b12][j]? = some true)
  (hno:∀m,m < j->[b1,b2,b3,b4,b5,b6,b7,b8,b9,b10,b11,b12][m]? = some false) (hw:kl[j]? = some wd) (hwl:wd.length ≤ 100) (hQ:∀H',fM H H' -> Q (.str (("! ":Str) ++ wd)) H') :
  z0 K a b1 b2 b3 b4 b5 b6 b7 b8 b9 b10 b11 b12 { nx:=fun _ H'=>Q .non H',rt:=Q } (L2.start qk [.ref a]) H:= by
 have s0:fM H H:=fun _ _ e=>e
 refine ⟨rfl,rfl,rfl,rfl,show 4 ≤ sizeLine by decide,fun p1 n1=>?_⟩
 have s1:=gB (v:=.lst [.bl b1,.bl b2,.bl b3,.bl b4]) s0 n1
 refine ⟨.ref p1,rfl,rfl,rfl,rfl,rfl,show 4 ≤ sizeLine by decide,fun p2 n2=>?_⟩
 have s2:=gB (v:=.lst [.bl b5,.bl b6,.bl b7,.bl b8]) s1 n2
 refine ⟨p1,p2,_,_,rfl,rfl,.inl (jE g8 n2),.inl g8,show 8 ≤ sizeLine by decide,fun p3 n3=>?_⟩
 have s3:=gB (v:=.lst ([.bl b1,.bl b2,.bl b3,.bl b4] ++ [.bl b5,.bl b6,.bl b7,.bl b8])) s2 n3
 refine ⟨.ref p3,rfl,rfl,rfl,rfl,rfl,show 4 ≤ sizeLine by decide,fun p4 n4=>?_⟩
 have s4:=gB (v:=.lst [.bl b9,.bl b10,.bl b11,.bl b12]) s3 n4
 refine ⟨p3,p4,_,_,rfl,rfl,.inl (jE g8 n4),.inl g8,show 12 ≤ sizeLine by decide,fun p5 n5=>?_⟩
 have s5:=gB (v:=.lst ([b1,b2,b3,b4,b5,b6,b7,b8,b9,b10,b11,b12].map V.bl)) s4 n5
 refine ⟨rfl,true,rfl,?_⟩
 show qx (rN Fj (wA kU (cx (gQ (lz K (fK 1)) 1 (eD 3) vO (wA qg (cx (fK 3) i8))) i8)) (tC (.int 1))) _ _ _
 refine BX (l:=p5) (bs:=[b1,b2,b3,b4,b5,b6,b7,b8,b9,b10,b11,b12]) rfl rfl g8 (show 12 ≤ 100 by decide) hc fun H6 sm=>?_
 have s6:fM H H6:=fun b o e=>sm b o (s5 b o e)
 have h5:H6 p5=some (.lst ([b1,b2,b3,b4,b5,b6,b7,b8,b9,b10,b11,b12].map V.bl)):=sm _ _ g8
 dsimp only
 rw [if_neg (by decide)]
 refine ⟨show 12 ≤ sizeLine by decide,fun p6 n6=>?_⟩
 have s7:=gB (v:=.lst (kl.map V.str)) s6 n6
 have h5':=jE (v:=.lst (kl.map V.str)) h5 n6
 refine ⟨.ref p6,rfl,.ref p5,rfl,.inl ⟨rfl,_,.inl (.inl h5')⟩,p5,[b1,b2,b3,b4,b5,b6,b7,b8,b9,b10,b11,b12],j,rfl,rfl,h5',by simp,hj,hno,.inl ⟨p6,_,j,.str wd,rfl,rfl,.inl (.inl g8),?_,_,_,rfl,rfl,?_,hQ _ s7⟩⟩
 .show jM (kl.map V.str) (j:Int)=some (.str wd)
  exact L2.atI_nat (by rw [List.getElem?_map,hw];rfl)
 .have:(("! ":Str)).length=2:=by decide +kernel
  rw [this]
  exact Nat.le_trans (Nat.add_le_add_left hwl 2) (by decide)
theorem rZ {k:Nat} {f D c1 c2 c3 c4 c5 c6 c7 c8 c9 c10 c11 c12:Addr} {fd:FuncData} {b1 b2 b3 b4 b5 b6 b7 b8 b9 b10 b11 b12:Bool} {j:Nat} {wd:Str} (F:wz K "_law_kind" "_law_kind" jn f fd) (E:kq K D)
  (Z:qi K mg D [c1,c2,c3,c4,c5,c6,c7,c8,c9,c10,c11,c12] [b1,b2,b3,b4,b5,b6,b7,b8,b9,b10,b11,b12]) (hc:[b1,b2,b3,b4,b5,b6,b7,b8,b9,b10,b11,b12].count true=1) (hj:[b1,b2,b3,b4,b5,b6,b7,b8,b9,b10,b11,b12][j]? = some true)
  (hno:∀m,m < j->[b1,b2,b3,b4,b5,b6,b7,b8,b9,b10,b11,b12][m]? = some false) (hw:kl[j]? = some wd) (hwl:wd.length ≤ 100):Jl P w K mg base (k + 1) f fd ["_law_e"] D (.str (("! ":Str) ++ wd)) :=
 KU F z9 rfl fun cdv A outer s H a o z hh=>⟨_,A0 E Z z hh,fun Q hQ=>wZ hc hj hno hw hwl hQ⟩
end
theorem HY {us:List Value} (h:us.length=1):∃a,us=[a]:=by match us,h with | [a],_=>exact ⟨a,rfl⟩
noncomputable def wx (c0 c1 c2:Addr):Addr->Option Str:=fun C=>if C=c0 then some "! head" else if C=c1 then some "! order" else if C=c2 then some "! many" else none
theorem o9 {c0 c1 c2 C:Addr} {x:Str} (h:wx c0 c1 c2 C=some x):(C=c0∧x = "! head") ∨ (C=c1∧x = "! order") ∨ (C=c2∧x = "! many"):= by
 unfold wx at h
 repeat' split at h
 all_goals simp_all
theorem ER {c0 c1 c2:Addr} :wx c0 c1 c2 c0=some "! head":=by simp [wx]
theorem Bj {c0 c1 c2:Addr} (h0:c1 ≠ c0):wx c0 c1 c2 c1=some "! order":=by simp [wx,h0]
theorem Dk {c0 c1 c2:Addr} (h0:c2 ≠ c0) (h1:c2 ≠ c1):wx c0 c1 c2 c2=some "! many":=by simp [wx,h0,h1]
theorem all_mk {l:PySem.W.OpenLaw} {w:World} {K:PySem.W.Frag} {h:Heap} {mg:Str->Option Value} {fa:Addr} (X:K.In h) (G:h.Ns mainGlobals mg) (hfa:mg "law" = some (.ref fa))
  {i35:Addr} {i48 i49:Option Addr} {i4a:Array (Option Value)} {i4b i4c i4d i4e i3j i4f:Value}
  {i06 i00 i07 i0d i01 i08 i0e i09 i0j i0f i0k i02 i05:Addr}
  (i36:PySem.W.nsIn K mainGlobals "NoLayout" = some (some (.ref i06)))
  (i3t:PySem.W.nsIn K mainGlobals "NoHead" = some (some (.ref i00)))
  (i37:PySem.W.nsIn K mainGlobals "NoColumn" = some (some (.ref i07)))
  (i3u:PySem.W.nsIn K mainGlobals "NoTree" = some (some (.ref i0d)))
  (i3k:PySem.W.nsIn K mainGlobals "NoOrder" = some (some (.ref i01)))
  (i38:PySem.W.nsIn K mainGlobals "NoTables" = some (some (.ref i08)))
  (i3v:PySem.W.nsIn K mainGlobals "NoDeed" = some (some (.ref i0e)))
  (i39:PySem.W.nsIn K mainGlobals "NoNumber" = some (some (.ref i09)))
  (i44:PySem.W.nsIn K mainGlobals "NoRow" = some (some (.ref i0j)))
  (i3w:PySem.W.nsIn K mainGlobals "NoText" = some (some (.ref i0f)))
  (i45:PySem.W.nsIn K mainGlobals "Bound" = some (some (.ref i0k)))
  (i3l:PySem.W.nsIn K mainGlobals "TooMany" = some (some (.ref i02)))
  (i2d:PySem.W.nsIn K mainGlobals "JoinError" = some (some (.ref i05)))
  (u_ve:PySem.W.nsIn K mainGlobals "ValueError" = some none) (i3a:PySem.W.nsIn K mainGlobals "sum" = some none) (i3b:PySem.W.nsIn K mainGlobals "int" = some none) (i3c:PySem.W.nsIn K mainGlobals "isinstance" = some none)
  (i3x:kq K i00) (i25:PySem.W.excIn K i00 [.type "ValueError",.type "Exception",.type "BaseException",.type "object"] "ValueError.__new__" = true)
  (i3d:PySem.W.kitOne K (.ref i00) (.type "ValueError")=some true) (i3e:PySem.W.exmOne K (.ref i00) (.ref i05)=some true)
  (i11:PySem.W.kitOne K (.ref i00) (.ref i06)=some false)
  (i0i:PySem.W.kitOne K (.ref i00) (.ref i00)=some true)
  (i13:PySem.W.kitOne K (.ref i00) (.ref i07)=some false)
  (i1k:PySem.W.kitOne K (.ref i00) (.ref i0d)=some false)
  (i0g:PySem.W.kitOne K (.ref i00) (.ref i01)=some false)
  (i14:PySem.W.kitOne K (.ref i00) (.ref i08)=some false)
  (i1l:PySem.W.kitOne K (.ref i00) (.ref i0e)=some false)
  (i15:PySem.W.kitOne K (.ref i00) (.ref i09)=some false)
  (i1t:PySem.W.kitOne K (.ref i00) (.ref i0j)=some false)
  (i1m:PySem.W.kitOne K (.ref i00) (.ref i0f)=some false)
  (i1u:PySem.W.kitOne K (.ref i00) (.ref i0k)=some false)
  (i0h:PySem.W.kitOne K (.ref i00) (.ref i02)=some false)
  (i3m:kq K i01) (i3n:PySem.W.excIn K i01 [.type "ValueError",.type "Exception",.type "BaseException",.type "object"] "ValueError.__new__" = true)
  (i2e:PySem.W.kitOne K (.ref i01) (.type "ValueError")=some true) (i2f:PySem.W.exmOne K (.ref i01) (.ref i05)=some true)
  (i0s:PySem.W.kitOne K (.ref i01) (.ref i06)=some false)
  (i19:PySem.W.kitOne K (.ref i01) (.ref i00)=some false)
  (i0t:PySem.W.kitOne K (.ref i01) (.ref i07)=some false)
  (i1a:PySem.W.kitOne K (.ref i01) (.ref i0d)=some false)
  (i0l:PySem.W.kitOne K (.ref i01) (.ref i01)=some true)
  (i0u:PySem.W.kitOne K (.ref i01) (.ref i08)=some false)
  (i1b:PySem.W.kitOne K (.ref i01) (.ref i0e)=some false)
  (i0v:PySem.W.kitOne K (.ref i01) (.ref i09)=some false)
  (i1n:PySem.W.kitOne K (.ref i01) (.ref i0j)=some false)
  (i1c:PySem.W.kitOne K (.ref i01) (.ref i0f)=some false)
  (i1o:PySem.W.kitOne K (.ref i01) (.ref i0k)=some false)
  (i0c:PySem.W.kitOne K (.ref i01) (.ref i02)=some false)
  (i3o:kq K i02) (i3p:PySem.W.excIn K i02 [.type "ValueError",.type "Exception",.type "BaseException",.type "object"] "ValueError.__new__" = true)
  (i2g:PySem.W.kitOne K (.ref i02) (.type "ValueError")=some true) (i2h:PySem.W.exmOne K (.ref i02) (.ref i05)=some true)
  (i0w:PySem.W.kitOne K (.ref i02) (.ref i06)=some false)
  (i1d:PySem.W.kitOne K (.ref i02) (.ref i00)=some false)
  (i0x:PySem.W.kitOne K (.ref i02) (.ref i07)=some false)
  (i1e:PySem.W.kitOne K (.ref i02) (.ref i0d)=some false)
  (i16:PySem.W.kitOne K (.ref i02) (.ref i01)=some false)
  (i0y:PySem.W.kitOne K (.ref i02) (.ref i08)=some false)
  (i1f:PySem.W.kitOne K (.ref i02) (.ref i0e)=some false)
  (i0z:PySem.W.kitOne K (.ref i02) (.ref i09)=some false)
  (i1p:PySem.W.kitOne K (.ref i02) (.ref i0j)=some false)
  (i1g:PySem.W.kitOne K (.ref i02) (.ref i0f)=some false)
  (i1q:PySem.W.kitOne K (.ref i02) (.ref i0k)=some false)
  (i17:PySem.W.kitOne K (.ref i02) (.ref i02)=some true)
  (i2x:PySem.W.nsIn K mainGlobals "_law_kind" = some (some (.ref i35))) (i4h:K.lookup i35=some ⟨i4b,i48,.func (PySem.W.fnOf "_law_kind" "_law_kind" (d4 jn) (bA jn) (aX jn) .none i4c i4d i4e i49 i3j i4f),i4a⟩) (i4i:PySem.W.codeIn K i3j "_law_kind" = true) (i43:PySem.W.keepIn K (.ref i35)=true)
  (i2i:Fh K "_law_cell" (top 32))
  (i3f:Fh K "_law_box" (top 33))
  (i2j:Fh K "_law_take" (top 34))
  (i26:Fh K "_law_order" (top 40))
  (i20:Fh K "_law_layout" (top 39))
  (i3g:Fh K "is_whole" (top 15))
  (i3h:Fh K "is_below" (top 16))
  (i18:Fh K "need_head" (top 24))
  (i3y:Fh K "common" (top 25))
  (i3z:Fh K "linked" (top 20))
  (i40:Fh K "pieces" (top 26))
  (i3i:Fh K "_law_odd" (top 36))
  (i2k:Fh K "_law_bent" (top 46))
  (i2l:Fh K "are_below" (top 17))
  (i27:Fh K "are_unlike" (top 18))
  (i1r:Fh K "are_all_below" (top 19))
  (i46:Fh K "moved" (top 27))
  (i47:Fh K "named" (top 28))
  (i41:Fh K "beside" (top 29))
  (i3q:Fh K "without" (top 30))
  (i28:Fh K "_law_asked" (top 43))
  (i2m:Fh K "_law_same" D0)
  (i2n:Fh K "_law_both" (top 41))
  (i21:Fh K "_law_pieces" (top 42))
  (i29:Fh K "_law_whole" (top 35))
  (i2a:Fh K "_law_named" (top 44))
  (i22:Fh K "_law_beside" (top 45))
  (i4j:Fh K "law" (top 47))
  (z:PySem.W.nsIn K mainGlobals "all" = some none∧PySem.W.nsIn K mainGlobals "bool" = some none∧PySem.W.nsIn K mainGlobals "dict" = some none∧PySem.W.nsIn K mainGlobals "enumerate" = some none∧PySem.W.nsIn K mainGlobals "int" = some none∧PySem.W.nsIn K mainGlobals "isinstance" = some none∧PySem.W.nsIn K mainGlobals "len" = some none∧PySem.W.nsIn K mainGlobals "list" = some none∧PySem.W.nsIn K mainGlobals "max" = some none∧PySem.W.nsIn K mainGlobals "min" = some none∧PySem.W.nsIn K mainGlobals "range" = some none∧PySem.W.nsIn K mainGlobals "set" = some none∧PySem.W.nsIn K mainGlobals "sorted" = some none∧PySem.W.nsIn K mainGlobals "tuple" = some none∧PySem.W.nsIn K mainGlobals "zip" = some none)
  {i1v:Tok} (i1w:PySem.W.nsIn K mainGlobals "MOST_COLUMNS" = some (some (.int 7 i1v)))
  {i2b:Tok} (i2c:PySem.W.nsIn K mainGlobals "MOST_HEADS" = some (some (.int 6 i2b)))
 :∃fd:FuncData,(∀(s:Shared) (v:Value),BindsTo s fd ⟨[v],[]⟩ [("_law_script",v)])∧∀base:Heap,K.In base->base.Ns mainGlobals mg->cZ l.prog w K mg base d8 7 fa fd ["_law_script"] tf:= by
 have m:Bi mg:=⟨PySem.W.mg_none_of X G z.1,PySem.W.mg_none_of X G z.2.1,PySem.W.mg_none_of X G z.2.2.1,PySem.W.mg_none_of X G z.2.2.2.1,PySem.W.mg_none_of X G z.2.2.2.2.1,PySem.W.mg_none_of X G z.2.2.2.2.2.1,PySem.W.mg_none_of X G z.2.2.2.2.2.2.1,PySem.W.mg_none_of X G z.2.2.2.2.2.2.2.1,PySem.W.mg_none_of X G z.2.2.2.2.2.2.2.2.1,PySem.W.mg_none_of X G z.2.2.2.2.2.2.2.2.2.1,PySem.W.mg_none_of X G z.2.2.2.2.2.2.2.2.2.2.1,PySem.W.mg_none_of X G z.2.2.2.2.2.2.2.2.2.2.2.1,PySem.W.mg_none_of X G z.2.2.2.2.2.2.2.2.2.2.2.2.1,PySem.W.mg_none_of X G z.2.2.2.2.2.2.2.2.2.2.2.2.2.1,PySem.W.mg_none_of X G z.2.2.2.2.2.2.2.2.2.2.2.2.2.2,⟨_,PySem.W.mg_of X G i1w⟩,⟨_,PySem.W.mg_of X G i2c⟩⟩
 have i24:=qZ (st:=jn) i4h i4i i43
 have i4k:=i24.binds (ps:=["_law_e"]) fun _ _ _ _ _ _ us hl=>by obtain ⟨_,rfl⟩:=HY hl;rfl
 have i4l:=PySem.W.mg_of X G i2x
 have i0o:=PySem.W.mg_of X G i36
 have i04:=PySem.W.mg_of X G i3t
 have i0p:=PySem.W.mg_of X G i37
 have i1h:=PySem.W.mg_of X G i3u
 have i0a:=PySem.W.mg_of X G i3k
 have i0q:=PySem.W.mg_of X G i38
 have i1i:=PySem.W.mg_of X G i3v
 have i0r:=PySem.W.mg_of X G i39
 have i1x:=PySem.W.mg_of X G i44
 have i1j:=PySem.W.mg_of X G i3w
 have i1y:=PySem.W.mg_of X G i45
 have i0b:=PySem.W.mg_of X G i3l
 have i2o:=PySem.W.mg_of X G i2d
 have i42:qi K mg i00 [i06,i00,i07,i0d,i01,i08,i0e,i09,i0j,i0f,i0k,i02] [false,true,false,false,false,false,false,false,false,false,false,false]:=⟨PySem.W.mg_none_of X G i3c,PySem.W.mg_none_of X G u_ve,PySem.W.mg_none_of X G i3b,PySem.W.mg_none_of X G i3a,i3d,by simp only [List.map_cons,List.map_nil,i0o,i04,i0p,i1h,i0a,i0q,i1i,i0r,i1x,i1j,i1y,i0b],by simp only [List.map_cons,List.map_nil,i11,i0i,i13,i1k,i0g,i14,i1l,i15,i1t,i1m,i1u,i0h]⟩
 have i3r:qi K mg i01 [i06,i00,i07,i0d,i01,i08,i0e,i09,i0j,i0f,i0k,i02] [false,false,false,false,true,false,false,false,false,false,false,false]:=⟨PySem.W.mg_none_of X G i3c,PySem.W.mg_none_of X G u_ve,PySem.W.mg_none_of X G i3b,PySem.W.mg_none_of X G i3a,i2e,by simp only [List.map_cons,List.map_nil,i0o,i04,i0p,i1h,i0a,i0q,i1i,i0r,i1x,i1j,i1y,i0b],by simp only [List.map_cons,List.map_nil,i0s,i19,i0t,i1a,i0l,i0u,i1b,i0v,i1n,i1c,i1o,i0c]⟩
 have i3s:qi K mg i02 [i06,i00,i07,i0d,i01,i08,i0e,i09,i0j,i0f,i0k,i02] [false,false,false,false,false,false,false,false,false,false,false,true]:=⟨PySem.W.mg_none_of X G i3c,PySem.W.mg_none_of X G u_ve,PySem.W.mg_none_of X G i3b,PySem.W.mg_none_of X G i3a,i2g,by simp only [List.map_cons,List.map_nil,i0o,i04,i0p,i1h,i0a,i0q,i1i,i0r,i1x,i1j,i1y,i0b],by simp only [List.map_cons,List.map_nil,i0w,i1d,i0x,i1e,i16,i0y,i1f,i0z,i1p,i1g,i1q,i17]⟩
 have h1_0:i01 ≠ i00:=fun z=>by rw [z,i0i] at i0g;cases i0g
 have h2_0:i02 ≠ i00:=fun z=>by rw [z,i0i] at i0h;cases i0h
 have h2_1:i02 ≠ i01:=fun z=>by rw [z,i0l] at i0c;cases i0c
 exact JJ X G hfa i4j (fun _ _ _ _ _ _ s v=>.of_eq rfl) dQ (fun base=>by
  have W:JK l.prog w K mg base 5 _ i05 _ ["_law_e"] (wx i00 i01 i02):=⟨fun C x h=>by
    rcases o9 h with ⟨rfl,rfl⟩ | ⟨rfl,rfl⟩ | ⟨rfl,rfl⟩
    .have q:=rZ (P:=l.prog) (w:=w) (base:=base) (k:=4) (j:=1) (wd:="head") i24 i3x i42 rfl rfl (by decide) rfl (by decide +kernel)
     have e:("! ":Str) ++ ("head":Str) = "! head":=by decide +kernel
     rw [e] at q
     exact q
    .have q:=rZ (P:=l.prog) (w:=w) (base:=base) (k:=4) (j:=4) (wd:="order") i24 i3m i3r rfl rfl (by decide) rfl (by decide +kernel)
     have e:("! ":Str) ++ ("order":Str) = "! order":=by decide +kernel
     rw [e] at q
     exact q
    .have q:=rZ (P:=l.prog) (w:=w) (base:=base) (k:=4) (j:=11) (wd:="many") i24 i3o i3s rfl rfl (by decide) rfl (by decide +kernel)
     have e:("! ":Str) ++ ("many":Str) = "! many":=by decide +kernel
     rw [e] at q
     exact q,fun C x h=>by
    rcases o9 h with ⟨rfl,rfl⟩ | ⟨rfl,rfl⟩ | ⟨rfl,rfl⟩
    .exact i3e
    .exact i2f
    .exact i2h⟩
  let C:Cw:=⟨l.prog,w,K,mg,base⟩
  have i2p:qf.H C 1:=qf.h (dM X G i2i) m
  have i33:qN.H C 2:=qN.h (dM X G i3f) m i2p.u
  have i03:iP.H C 1:=iP.h (dM X G i2j)
  have G_q8:Aa.H C 2:=Aa.h (dM X G i26) m i03.u
  have G_q2:yE.H C 2:=yE.h (dM X G i20) m i03.u
  have i2q:qB.H C 1:=qB.h (dM X G i3g) m
  have i0m:kg.H C 2:=kg.h (dM X G i3h) i2q.u
  have G_q4:zt.H C 3:=zt.h (dM X G i18) m i0m.u
  have i2r:oI.H C 4:=oI.h (dM X G i3y) m G_q4.u
  have i2t:qF.H C 1:=qF.h (dM X G i3z) m
  have i34:pB.H C 5:=pB.h (dM X G i40) m i2r.u i2t.u
  have i2u:qL.H C 2:=qL.h (dM X G i3i) i03.u
  have i23:pV.H C 3:=pV.h (dM X G i2k) m i2u.u i03.u
  have i2v:qj.H C 3:=qj.h (dM X G i2l) m i0m.u
  have G_q5:xh.H C 1:=xh.h (dM X G i27) m
  have G_q0:qT.H C 4:=qT.h (dM X G i1r) m i2v.u G_q5.u
  have i10:mw.H C 1:=mw.h (dM X G i46) m
  have i30:(sQ i01).H C 5:=(sQ i01).h (dM X G i47) m ⟨i0a,i3n⟩ G_q0.u i10.u
  have i2y:(ud i02).H C 2:=(ud i02).h (dM X G i41) m ⟨i0b,i3p⟩ i10.u
  have i2w:(tH i00).H C 3:=(tH i00).h (dM X G i18) m ⟨i04,i25⟩ i0m.u
  have i31:(uw i00).H C 4:=(uw i00).h (dM X G i3q) m ⟨i04,i25⟩ i2w.u
  have G_q6:(xg i00 i01 i02 (wx i00 i01 i02)).H C 6:=(xg i00 i01 i02 (wx i00 i01 i02)).h (dM X G i28) _ _ _ ⟨W,i2o,i4l,i43,i4k⟩ i2y.u i30.u i31.u
  have i0n:jq l.prog w K mg base 4:=z4 (k:=0) (dM X G i2m) m 4
  have i32:pj.H C 1:=pj.h (dM X G i2n) m
  have G_q3:zO.H C 2:=zO.h (dM X G i21) m i32.u
  have G_q9:xY.H C 1:=xY.h (dM X G i29) m
  have G_q7:oY.H C 2:=oY.h (dM X G i2a) m G_q9.u
  have G_q1:yO.H C 1:=yO.h (dM X G i22) m
  exact fun _ _ _ _ _ _ _ hr=>Kx.h (c:=C) (xr _ _ _ _) hr m G_q6.u i23.u G_q1.u i33.u G_q2.u G_q7.u G_q8.u G_q3.u i0n.u i03.u i34.u) fun _ _ _ F=>GB F (uO i00 i01 i02 (wx i00 i01 i02) ER (Bj h1_0) (Dk h2_0 h2_1))
end K02
open PySem PySem.W PyProof.Rows
set_option maxRecDepth 100000
set_option maxHeartbeats 0
namespace TopAll
open PySem PySem.W PySem.Calls PyProof.Rows
def run (st:SharedT→Thread→Option (SharedT×Thread)) (ok:Thread→Bool):Nat→SharedT→Thread→Option SharedT
 |0,_,_=>none
 |n+1,s,t=>match through t with
  |true=>some s
  |false=>match ok t with
   |false=>none
   |true=>match st s t with
    |some (s',t')=>run st ok n s' t'
    |none=>none
theorem run_spec {tb:String→Option Builtin} {p:Program} {w:World} {m:Nat} {an:Option Value}:∀ {n:Nat} {s s':SharedT} {t:Thread},
  run (stepT (denote tb) p w) (stepOk m an) n s t=some s' → topRun tb p w m an n s.abs t=some s'.abs
 |0,_,_,_,h=>by cases h
 |n+1,s,s',t,h=>by
  unfold run at h
  unfold topRun
  cases ht:through t with
  |true=>rw [ht] at h;cases h;rfl
  |false=>
   rw [ht] at h
   cases hk:stepOk m an t with
   |false=>rw [hk] at h;cases h
   |true=>
    rw [hk] at h
    cases hs:stepT (denote tb) p w s t with
    |none=>rw [hs] at h;cases h
    |some r=>obtain ⟨s2,t2⟩:=r;rw [hs] at h;rw [stepT_spec hs];exact run_spec h
noncomputable def boot (w:World) (os:OsState):SharedT:=⟨(boot_heap w.params).objs.toList.zipIdx.foldl (fun t x=>t.ins x.2 x.1) BT.nil,11,(boot_heap w.params).life,Array.mk [],boot_drawn,boot_toks,os⟩
theorem boot_abs (w:World) (os:OsState):(boot w os).abs=⟨boot_heap w.params,Array.mk [],boot_drawn,boot_toks,os⟩:=by kernel_rfl
theorem boot_size (w:World):((boot_heap w.params).isNs mainGlobals && (Array.mk []:Array GenState).size==0,(boot_heap w.params).objs.size,(boot_heap w.params).nsMap mainGlobals "__annotations__")=(true,11,some (.ref 6)):=by kernel_rfl
noncomputable abbrev go (p:Program) (w:World) (N:Nat) (os:OsState):Option SharedT:=run (Fast.tw10156331382660048174 (Fast.tw11892475500146522536 Fast.tw14364793385576792824) p w) (Fast.tw6613529449190102663 11 (some (.ref 6))) N (boot w os) (topStub p)
theorem left {p q:Program} {lo:List Str} {Xt:Shared→Bool} {α:Type} {Yf:Shared→α} {Ya:World→α} {N:Nat} {g0:Bool}
  (e:opening p=plainProg p.main.scope.names) (hN:Nat.ble 600 N=true) (f:∀ s,fenceModules? p s=some s)
  (u1:∀ w:World,(fun os=>(go p w N os).map fun S=>((staticsOk (importedModules p.main.body) (boot_heap w.params) S.abs.heap && namesBound p S.abs.heap && gensDone S.abs && laidKept (boot_heap w.params) S.abs.heap),
   (Fast.tw4187177175401517315 q lo (Fast.tw5923862056798008813 p.main.body) Xt g0 S.abs).1))=fun _=>some (true,(openGood q lo).1))
  (u2:∀ w:World,(fun os=>(go p w N os).map fun S=>(Fast.tw4187177175401517315 q lo (Fast.tw5923862056798008813 p.main.body) Xt g0 S.abs).2)=fun _=>some (openGood q lo).2)
  (u3:∀ w:World,(fun os=>(go p w N os).map fun S=>Yf S.abs)=fun _=>some (Ya w)):LeftO p q lo Xt Yf Ya N g0:=fun w=>by
 obtain ⟨⟨h,gs,d,k,os⟩,e1,e'⟩:=Option.map_eq_some_iff.mp (boot_open e hN f w)
 obtain ⟨rfl,rfl,rfl,rfl⟩:h=boot_heap w.params∧gs=Array.mk []∧d=boot_drawn∧k=boot_toks:=by simpa using e'
 obtain ⟨z1,z2,z3⟩:_∧_∧_:=by simpa only [Prod.mk.injEq] using boot_size w
 obtain ⟨S,r,l1⟩:=Option.map_eq_some_iff.mp (congrFun (u1 w) os)
 have l2:=congrFun (u2 w) os
 have l3:=congrFun (u3 w) os
 simp only [r,Option.map_some,Option.some.injEq] at l2 l3
 obtain ⟨l1,l4⟩:=Prod.mk.inj l1
 rw [←Fast.te4187177175401517315,←Fast.te5923862056798008813] at l2 l4
 unfold go at r
 rw [←Fast.te10156331382660048174,←Fast.te11892475500146522536,←Fast.te14364793385576792824,←Fast.te6613529449190102663] at r
 have r:=run_spec r
 rw [boot_abs] at r
 have t:topFrom treeTable p w N ⟨boot_heap w.params,Array.mk [],boot_drawn,boot_toks,os⟩=some S.abs:=by
  unfold topFrom
  dsimp only
  rw [z1,z2,z3,r]
  show (match staticsOk (importedModules p.main.body) (boot_heap w.params) S.abs.heap && namesBound p S.abs.heap && gensDone S.abs && laidKept (boot_heap w.params) S.abs.heap with |true=>_|false=>_)=_
  rw [l1]
 unfold openEnds
 rw [e1]
 show (topFrom treeTable p w N _).map _=_
 rw [t]
 exact congrArg some (Prod.ext (Prod.ext l4 l2) l3)
end TopAll
abbrev TopAll.q:PySem.Program:=PySem.W.view PySem.Challenge.rw_jointrees_k02_pieces_named_beside_withou.prog [1,2,3,4,5,6,7,8,9,10,11,12,13,15,16,17,18,19,20,22,23,24,25,26,27,28,29,30,32,33,34,35,36,37,38,39,40,41,42,43,44,45,46,47]
open PySem PySem.W PySem.Calls PyProof.Rows
theorem TopAll.law:PySem.Challenge.rw_jointrees_k02_pieces_named_beside_withou.wellSaid=true:=by
 rw [Fast.te9446332074065402090]
 kernel_rfl
theorem TopAll.u1 (w:World):(fun os=>(TopAll.go PySem.Challenge.rw_jointrees_k02_pieces_named_beside_withou.row.prog w 8000 os).map fun S=>((staticsOk (importedModules PySem.Challenge.rw_jointrees_k02_pieces_named_beside_withou.row.prog.main.body) (boot_heap w.params) S.abs.heap && namesBound PySem.Challenge.rw_jointrees_k02_pieces_named_beside_withou.row.prog S.abs.heap && gensDone S.abs && laidKept (boot_heap w.params) S.abs.heap),
   (Fast.tw4187177175401517315 TopAll.q [] (Fast.tw5923862056798008813 PySem.Challenge.rw_jointrees_k02_pieces_named_beside_withou.row.prog.main.body) (fun s=>xlAt TopAll.q [] s && recOk [] s) true S.abs).1))=fun _=>some (true,(openGood TopAll.q []).1):=by kernel_rfl
theorem TopAll.u2 (w:World):(fun os=>(TopAll.go PySem.Challenge.rw_jointrees_k02_pieces_named_beside_withou.row.prog w 8000 os).map fun S=>(Fast.tw4187177175401517315 TopAll.q [] (Fast.tw5923862056798008813 PySem.Challenge.rw_jointrees_k02_pieces_named_beside_withou.row.prog.main.body) (fun s=>xlAt TopAll.q [] s && recOk [] s) true S.abs).2)=fun _=>some (openGood TopAll.q []).2:=by kernel_rfl
set_option hygiene false in
local macro_rules |`(tactic|o_head $H)=>`(tactic|(refine holds_open (r:=PySem.Challenge.rw_jointrees_k02_pieces_named_beside_withou.row) (q:=TopAll.q) (loose:=[]) (Xt:=fun s=>xlAt TopAll.q [] s && recOk [] s) (XP:=XL TopAll.q []) (Yf:=Hook.obs $H) (Ya:=Hook.val $H) (YP:=Hook.says $H) (N:=8000) ?hl (Hook.of $H) (Hook.keeps $H) (fun s e=>xl_of s (Bool.and_eq_true_iff.mp e).1) XL.keeps (by rfl) (by rfl) (by rfl) (fun s e=>recFacts_of (Bool.and_eq_true_iff.mp e).2) (by rfl) (by assumption) (by decide +kernel) ⟨rfl,rfl,rfl,rfl,rfl,by decide +kernel⟩ ?hw ?hc;(case hl=>exact TopAll.left (by kernel_rfl) (by decide) (fun s=>by kernel_rfl) TopAll.u1 TopAll.u2 (fun w=>by kernel_rfl))))
set_option maxRecDepth 100000 in
set_option maxHeartbeats 0 in
theorem PySem.Challenge.cw_jointrees_k02_pieces_named_beside_withou_holds : PySem.Challenge.rw_jointrees_k02_pieces_named_beside_withou.Holds := by
 w_on;refine holds_law TopAll.law fun said=>?_;k_head;(case hw=>w_witness2)
 k_fill
 refine Jt.walkD (l:=PySem.Challenge.rw_jointrees_k02_pieces_named_beside_withou) (k:=7) rfl rfl ⟨rfl,by decide,by decide,rfl⟩ (fun w h Y=>PySem.W.kIn_of Y) ?L ?T ?F
 case L=>intro w;kernel_rfl
 case T=>intro w;kernel_rfl
 case F=>
  intro w mg fa h KX G hmg
  refine' K02.all_mk KX G hmg ?_ ?_ ?_ ?_ ?_ ?_ ?_ ?_ ?_ ?_ ?_ ?_ ?_ ?_ ?_ ?_ ?_ ⟨?_,?_,?_,?_,?_,?_,?_,?_⟩ ?_ ?_ ?_ ?_ ?_ ?_ ?_ ?_ ?_ ?_ ?_ ?_ ?_ ?_ ?_ ⟨?_,?_,?_,?_,?_,?_,?_,?_⟩ ?_ ?_ ?_ ?_ ?_ ?_ ?_ ?_ ?_ ?_ ?_ ?_ ?_ ?_ ?_ ⟨?_,?_,?_,?_,?_,?_,?_,?_⟩ ?_ ?_ ?_ ?_ ?_ ?_ ?_ ?_ ?_ ?_ ?_ ?_ ?_ ?_ ?_ ?_ ?_ ?_ ?_ ?_ ?_ ?_ ?_ ?_ ?_ ?_ ?_ ?_ ?_ ?_ ?_ ?_ ?_ ?_ ?_ ?_ ?_ ?_ ?_ ?_ ?_ ?_ ?_ ?_ ?_ ?_ ?_ ?z ?y_MOST_COLUMNS ?y_MOST_HEADS
  all_goals try first | k_is | kernel_rfl
  case z=>refine ⟨?_,?_,?_,?_,?_,?_,?_,?_,?_,?_,?_,?_,?_,?_,?_⟩ <;> k_is
  all_goals (refine' Jt.fh_mk ?a ?l ?c ?k;(case a=>k_is);(case l=>k_is);(case c=>k_is);(case k=>k_is))
