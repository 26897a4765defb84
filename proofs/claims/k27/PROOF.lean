import PyProof.Rows.All
import Wide.All
import OpenK.AllK
import Wide.FinOn
import Lean
import PyProof.EqAt
import PyProof.EqKinds
import PyProof.TupleCall
import PySem.Challenge.RW_plainglass_k27_marks_placed
set_option Elab.async false
set_option linter.all false
set_option compiler.extract_closed false
set_option maxRecDepth 100000
namespace L2
open PySem PySem.Spec PyProof.Rows
abbrev Key:=Sum Int Str
noncomputable def pM:Key->Value->Bool
 |.inl k,v=>Value.isInt k v
 |.inr x,v=>Value.isStrOf x v
noncomputable def Hg(w:World):Key->Int
 |.inl k=>hashInt k
 |.inr x=>hashStr w x
theorem cz:∀{k:Key} {v:Value},pM k v=true->(∃ i t,k=Sum.inl i /\ v=Value.int i t) \/ (∃ x t,k=Sum.inr x /\ v=Value.str x t)
 | .inl i,v,h=>by
   obtain⟨t,e⟩:=Value.isInt_shape (k:=i) (v:=v) h;exact .inl ⟨i,t,rfl,e⟩
 | .inr x,v,h=>by
   obtain⟨t,e⟩:=Value.isStrOf_shape (x:=x) (v:=v) h;exact .inr ⟨x,t,rfl,e⟩
theorem xm(i:Int)(t:Tok):pM (.inl i) (.int i t)=true:=by simp[pM,Value.isInt]
theorem yc(x:Str)(t:Tok):pM (.inr x) (.str x t)=true:=by simp[pM,Value.isStrOf]
theorem DM(a b:Int):decide ((Sum.inl a:Key)=Sum.inl b)=(a==b):=by
 by_cases e:a=b
 . subst e;simp
 . have h:¬ (Sum.inl a:Key)=Sum.inl b:=fun q=>e (Sum.inl.inj q)
   rw[decide_eq_false h]
   exact(beq_eq_false_iff_ne.mpr e).symm
theorem Ds(a b:Str):decide ((Sum.inr a:Key)=Sum.inr b)=decide (a=b):=by
 by_cases e:a=b
 . subst e;simp
 . have h:¬ (Sum.inr a:Key)=Sum.inr b:=fun q=>e (Sum.inr.inj q)
   rw[decide_eq_false h,decide_eq_false e]
theorem ED(a:Int)(b:Str):decide ((Sum.inl a:Key)=Sum.inr b)=false:=decide_eq_false (fun q=>nomatch q)
theorem Dq(a:Str)(b:Int):decide ((Sum.inr a:Key)=Sum.inl b)=false:=decide_eq_false (fun q=>nomatch q)
noncomputable def cL(prog:Program)(w:World):PySem.KeyKind prog w Key where
 is:=pM
 hash:=Hg w
 inj:=fun v a b ha hb=>by
  rcases cz ha with⟨i,t,rfl,rfl⟩|⟨x,t,rfl,rfl⟩
  . rcases cz hb with⟨j,u,rfl,e⟩|⟨y,u,rfl,e⟩
    . injection e with e1 _;rw[e1]
    . exact nomatch e
  . rcases cz hb with⟨j,u,rfl,e⟩|⟨y,u,rfl,e⟩
    . exact nomatch e
    . injection e with e1 _;rw[e1]
 byValue:=fun k v h=>by
  rcases cz h with⟨i,t,rfl,rfl⟩|⟨x,t,rfl,rfl⟩<;>rfl
 pyHash:=fun hv h=>by
  rcases cz hv with⟨i,t,rfl,rfl⟩|⟨x,t,rfl,rfl⟩
  . exact wpAny_pyHash_int h
  . exact wpAny_pyHash_str h
 eqBool:=fun hu hv h=>by
  rcases cz hu with⟨i,t,rfl,rfl⟩|⟨x,t,rfl,rfl⟩
  . rcases cz hv with⟨j,u,rfl,rfl⟩|⟨y,u,rfl,rfl⟩
    . rw[DM]at h;exact wpAny_eqBool_int h
    . rw[ED]at h;exact SeqAt.EqAt.int_str i t y u _ _ _ _ h
  . rcases cz hv with⟨j,u,rfl,rfl⟩|⟨y,u,rfl,rfl⟩
    . rw[Dq]at h;exact SeqAt.EqAt.str_int x t j u _ _ _ _ h
    . rw[Ds]at h;exact wpAny_eqBool_str h
 «strs»:=fun k x t v h=>by
  rcases cz h with⟨i,u,rfl,e⟩|⟨y,u,rfl,e⟩
  . exact nomatch e
  . injection e with e1 _
    subst e1
    cases v<;>rfl
theorem ue(prog:Program)(w:World)(i:Int)(t:Tok):(cL prog w).is (.inl i) (.int i t)=true:=xm i t
theorem tf(prog:Program)(w:World)(x:Str)(t:Tok):(cL prog w).is (.inr x) (.str x t)=true:=yc x t
inductive V where
 |non|bl (b:Bool)|int (i:Int)|str (x:Str)|byt (b:Array UInt8)|flt (b:UInt64)|ref (a:Addr)|ty (n:String)
 deriving DecidableEq
noncomputable def RelV:V->Value->Prop
 |.non,u=>u=Value.none
 |.bl b,u=>u=Value.bool b
 |.int i,u=>∃ t,u=Value.int i t
 |.str x,u=>∃ t,u=Value.str x t
 |.byt b,u=>∃ t,u=Value.bytes b t
 |.flt b,u=>∃ t,u=Value.float b t
 |.ref a,u=>u=Value.ref a
 |.ty n,u=>u=Value.type n
abbrev Vals:List V->List Value->Prop:=Paired RelV
theorem Vals.length{xs:List V}{us:List Value}(r:Vals xs us):xs.length=us.length:=Paired.length r
theorem Vals.get:∀{xs:List V} {us:List Value} {i:Nat} {x:V},Vals xs us->xs[i]?=some x->∃ u,us[i]?=some u /\ RelV x u
 |_,_,_,_,.nil,e=>by simp at e
 |_,_,0,_,.cons r _,e=>by simp at e;subst e;exact⟨_,rfl,r⟩
 | _,_,i+1,x,.cons _ t,e=>by
   obtain⟨u,h1,h2⟩:=Vals.get (i:=i) (x:=x) t (by simpa using e)
   exact⟨u,by simpa using h1,h2⟩
theorem Vals.set{x:V}{u:Value}(r:RelV x u):∀{xs:List V} {us:List Value} (i:Nat),Vals xs us->Vals (xs.set i x) (us.set i u)
 |_,_,_,.nil=>.nil
 |_,_,0,.cons _ t=>.cons r t
 |_,_,i+1,.cons q t=>.cons q (Vals.set r i t)
theorem Vals.append:∀{xs ys:List V} {us ws:List Value},Vals xs us->Vals ys ws->Vals (xs++ys) (us++ws)
 |_,_,_,_,.nil,s=>s
 |_,_,_,_,.cons r t,s=>.cons r (Vals.append t s)
theorem Vals.take:∀{xs:List V} {us:List Value} (n:Nat),Vals xs us->Vals (xs.take n) (us.take n)
 |_,_,0,_=>.nil
 |_,_,_+1,.nil=>.nil
 |_,_,n+1,.cons r t=>.cons r (Vals.take n t)
theorem Vals.drop:∀{xs:List V} {us:List Value} (n:Nat),Vals xs us->Vals (xs.drop n) (us.drop n)
 |_,_,0,r=>r
 |_,_,_+1,.nil=>.nil
 |_,_,n+1,.cons _ t=>Vals.drop n t
noncomputable def aX:Option V->Option Value->Prop
 |some v,some u=>RelV v u
 |none,none=>True
 |_,_=>False
noncomputable def KV{κ:Type}:List (κ×V)->List (κ×Value)->Prop:=Paired fun (p:κ×V) (q:κ×Value)=>p.1=q.1 /\ RelV p.2 q.2
noncomputable def kV:Key->V
 |.inl i=>.int i
 |.inr x=>.str x
inductive HO where
  |lst (xs:List V)
  |tup (xs:List V)
  |dK (kvs:List (Key×V))|dT (kvs:List (List Key×V))
  |set (S:Int->Bool) (n:Nat)
  |ins (C dx:Addr) (fs:List (Str×V))
  |own (x:Addr)
  |xd (fs:List (Str×V))
  |met (f x:Addr)
  |rng (lo hi:Int)
  |frz (o:Obj) (u:HO)
  |tbl (ps:Array Value)
  |ext (φ:Heap->Prop)
abbrev Hp:=Addr->Option HO
noncomputable def upd(H:Hp)(a:Addr)(o:HO):Hp:=fun b=>if b=a then some o else H b
theorem aY{H:Hp}{a:Addr}{o:HO}:upd H a o a=some o:=by unfold upd;rw[if_pos rfl]
theorem bj{H:Hp}{a b:Addr}{o:HO}(h:b≠a):upd H a o b=H b:=by unfold upd;rw[if_neg h]
theorem AH{H:Hp}{a:Addr}{o u:HO}:upd (upd H a o) a u=upd H a u:=by
 funext b;unfold upd;split<;>rfl
theorem FY{H:Hp}{a b:Addr}{o u:HO}(h:H a=some o)(h':H b=some u)(d:o≠u):a≠b:=by
 intro e;subst e;rw[h]at h';exact d (Option.some.inj h')
theorem cB{H:Hp}{a b:Addr}{o:HO}(h:H a=some o)(h':H b=none):a≠b:=by
 intro e;subst e;rw[h]at h';cases h'
section
variable(P:Program)(w:World)
noncomputable def dA(H:Hp)(h:Heap)(a:Addr):HO->Prop
 |.lst xs=>xs.length<=sizeLine /\ ∃(its:List Value) (n:Nat),Vals xs its /\ h.get? a=some { cls:=.type "list",data:=.seq its.toArray n }
 |.tup xs=>xs.length<=sizeLine /\ ∃ its:List Value,Vals xs its /\ IsTup h a its.toArray
 |.dK kvs=>kvs.length<=sizeLine /\ (a==sysModules)=false /\ ∃ vs,KV kvs vs /\ h.DictOf (cL P w) a vs
 | .dT kvs=>kvs.length <= sizeLine /\ (a == sysModules) = false /\ ∃ xs:List (List Key × Addr × Value),
    Paired (fun (p:List Key×V) (q:List Key×Addr×Value)=>p.1=q.1 /\ H q.2.1=some (.tup (p.1.map kV)) /\ RelV p.2 q.2.2) kvs xs /\
    ∃ o es ep,h.get? a=some o /\ o.ExactDict /\ o.data=.dict es ep /\ es.toList=xs.map (entryOfKey (tupleKind (cL P w))) /\ (xs.map (·.1)).Nodup
 |.set S n=>h.SetOf (intKind P w) a S n
 | .ins C dx fs=>H dx = some (.own a) /\ fs.length <= 1000 /\ dx ≠ a /\ h.get? a = some (PySem.W.instObj C dx) /\
    ∃ mA,h.Ns1 dx mA /\ (∀ f,aX (fs.lookup f) (mA f)) /\ PySem.Within mA (fs.map (·.1))
 |.own _=>∃ o,h.get? a=some o
 |.xd fs=>∃ mA,h.Ns1 a mA /\ ∀ f,aX (fs.lookup f) (mA f)
 |.rng lo hi=>∃ t u v,h.get? a=some { cls:=.type "range",data:=.fields #[.int lo t,.int hi u,.int 1 v] }
 |.frz o u=>h.get? a=some o /\ dA H h a u
 |.tbl ps=>h.get? a=some { cls:=.none,data:=.fields ps }
 |.met f x=>h.get? a=some (PySem.W.methodObj (.ref f) (.ref x))
 |.ext φ=>φ h /\ (∃ o,h.get? a=some o) /\ ∀ h1 h2:Heap,φ h1->(∀ o,h1.get? a=some o->h2.get? a=some o)->φ h2
noncomputable def HOk(H:Hp)(h:Heap):Prop:=∀ a o,H a=some o->dA P w H h a o
end
section
variable{P:Program}{w:World}{H H':Hp}{h h':Heap}{a:Addr}{o:HO}
theorem dA.lt(x:dA P w H h a o):a<h.objs.size:=by
 cases o with
 |lst xs=>obtain⟨_,_,_,_,e⟩:=x;exact Heap.lt_size e
 |tup xs=>obtain⟨_,_,_,p⟩:=x;exact p.lt
 |dK kvs=>obtain⟨_,_,_,_,o,_,_,e,_⟩:=x;exact Heap.lt_size e
 |dT kvs=>obtain⟨_,_,_,_,o,_,_,e,_⟩:=x;exact Heap.lt_size e
 |set S n=>obtain⟨o,_,_,_,e,_⟩:=x;exact Heap.lt_size e
 |ins C dx fs=>obtain⟨_,_,_,e,_⟩:=x;exact Heap.lt_size e
 |own y=>obtain⟨_,e⟩:=x;exact Heap.lt_size e
 |xd fs=>obtain⟨_,⟨_,_,_,e,_⟩,_⟩:=x;exact Heap.lt_size e
 |rng lo hi=>obtain⟨_,_,_,e⟩:=x;exact Heap.lt_size e
 |frz ob u=>obtain⟨e,_⟩:=x;exact Heap.lt_size e
 |tbl ps=>exact Heap.lt_size (show h.get? a=some _ from x)
 |met f y=>exact Heap.lt_size (show h.get? a=some _ from x)
 |ext φ=>obtain⟨_,⟨_,e⟩,_⟩:=x;exact Heap.lt_size e
theorem Paired.Ep{α β:Type}{F G:α->β->Prop}:∀{l₁:List α} {l₂:List β},Paired F l₁ l₂->(∀ a b,F a b->G a b)->Paired G l₁ l₂
 |_,_,.nil,_=>.nil
 |_,_,.cons r t,f=>.cons (f _ _ r) (Paired.Ep t f)
theorem dA.oI(x:dA P w H h a o)(k:∀ b u,(b=a \/ H b=some (.own a))->h.get? b=some u->h'.get? b=some u)
  (ho:∀ b,H b=some (.own a)->H' b=some (.own a)) (ht:∀ b xs,H b=some (.tup xs)->H' b=some (.tup xs)):dA P w H' h' a o:=by
 induction o with
 |lst xs=>obtain⟨z,its,n,r,e⟩:=x;exact⟨z,its,n,r,k _ _ (.inl rfl) e⟩
 |tup xs=>obtain⟨z,its,r,ob,e,c⟩:=x;exact⟨z,its,r,ob,k _ _ (.inl rfl) e,c⟩
 |dK kvs=>obtain⟨z,y,vs,r,ob,es,ep,e,c⟩:=x;exact⟨z,y,vs,r,ob,es,ep,k _ _ (.inl rfl) e,c⟩
 | dT kvs=>
   obtain⟨z,y,xs,r,ob,es,ep,e,c⟩:=x
   exact⟨z,y,xs,Paired.Ep r fun p q z=>⟨z.1,ht _ _ z.2.1,z.2.2⟩,ob,es,ep,k _ _ (.inl rfl) e,c⟩
 |set S n=>obtain⟨ob,es,ep,t,e,c⟩:=x;exact⟨ob,es,ep,t,k _ _ (.inl rfl) e,c⟩
 | ins C dx fs=>
   obtain⟨d,z,ne,e,mA,⟨od,es,ep,e2,c⟩,r⟩:=x
   exact⟨ho _ d,z,ne,k _ _ (.inl rfl) e,mA,⟨od,es,ep,k _ _ (.inr d) e2,c⟩,r⟩
 |own y=>obtain⟨ob,e⟩:=x;exact⟨ob,k _ _ (.inl rfl) e⟩
 |xd fs=>obtain⟨mA,⟨od,es,ep,e,c⟩,r⟩:=x;exact⟨mA,⟨od,es,ep,k _ _ (.inl rfl) e,c⟩,r⟩
 |rng lo hi=>obtain⟨t,u,v,e⟩:=x;exact⟨t,u,v,k _ _ (.inl rfl) e⟩
 |frz ob u ih=>obtain⟨e,q⟩:=x;exact⟨k _ _ (.inl rfl) e,ih q⟩
 | tbl ps=>
   have e:h.get? a=some { cls:=.none,data:=.fields ps }:=x
   show h'.get? a=some { cls:=.none,data:=.fields ps };exact k a _ (.inl rfl) e
 | met f y=>
   have e:h.get? a=some (PySem.W.methodObj (.ref f) (.ref y)):=x
   show h'.get? a=some (PySem.W.methodObj (.ref f) (.ref y));exact k a _ (.inl rfl) e
 |ext φ=>obtain⟨p,⟨o,e⟩,st⟩:=x;exact⟨st _ _ p fun o q=>k _ _ (.inl rfl) q,⟨o,k _ _ (.inl rfl) e⟩,st⟩
theorem HOk.lt(x:HOk P w H h)(e:H a=some o):a<h.objs.size:=(x a o e).lt
theorem HOk.fresh(x:HOk P w H h)(e:h.objs.size<=a):H a=none:=by
 cases q:H a with
 |none=>rfl
 |some u=>exact absurd (Nat.lt_of_lt_of_le (x.lt q) e) (Nat.lt_irrefl _)
theorem HOk.kept(x:HOk P w H h)(k:∀ b u,h.get? b=some u->h'.get? b=some u):HOk P w H h':=fun a o e=>
 (x a o e).oI (fun b u _ q=>k b u q) (fun _ q=>q) fun _ _ q=>q
theorem HOk.laid(x:HOk P w H h)(k:∀ b u,h.get? b=some u->h'.get? b=some u)(hp:h.objs.size<=a)(new:dA P w (upd H a o) h' a o):HOk P w (upd H a o) h':=fun b u e=>by
 have hn:=x.fresh hp
 by_cases hb:b=a
 . subst hb;rw[aY]at e;cases e;exact new
 . rw[bj hb]at e
   exact(x b u e).oI (fun c v _ q=>k c v q) (fun c q=>by rw[bj (cB q hn)];exact q) fun c xs q=>by rw[bj (cB q hn)];exact q
end
noncomputable def Rd(H:Hp)(a:Addr)(u:HO):Prop:=H a=some u \/ ∃ o,H a=some (.frz o u)
theorem Rd.ok{P:Program}{w:World}{H:Hp}{h:Heap}{a:Addr}{u:HO}(r:Rd H a u)(x:HOk P w H h):dA P w H h a u:=by
 rcases r with r|⟨o,r⟩
 . exact x a u r
 . obtain⟨_,q⟩:=x a _ r;exact q
noncomputable def Mut:Option HO->Prop
 |some (.lst _)=>True
 |some (.dK _)=>True
 |some (.dT _)=>True
 |some (.set _ _)=>True
 |some (.ins _ _ _)=>True
 |some (.ext _)=>True
 |_=>False
section
variable{P:Program}{w:World}{H:Hp}{h h':Heap}{x e:Addr}{o':HO}
theorem HOk.write(ok:HOk P w H h)(mu:Mut (H x))(he:e=x \/ H e=some (.own x))(k:∀ b u,b≠e->h.get? b=some u->h'.get? b=some u)(heo:∃ u,h'.get? e=some u)
  (new:dA P w (upd H x o') h' x o'):HOk P w (upd H x o') h':=fun b u q=>by
 have nown:∀ c y,H c=some (.own y)->c≠x:=fun c y r z=>by subst z;rw[r]at mu;exact mu
 have ntup:∀ c xs,H c=some (.tup xs)->c≠x:=fun c xs r z=>by subst z;rw[r]at mu;exact mu
 by_cases hb:b=x
 . subst hb;rw[aY]at q;cases q;exact new
 . rw[bj hb]at q
   by_cases hbe:b=e
   . have q':H b = some (.own x):=by
      rcases he with z|z
      . exact absurd (hbe.trans z) hb
      . rw[hbe];exact z
     rw[q]at q';cases q';obtain⟨v,hv⟩:=heo
     exact⟨v,by rw[hbe];exact hv⟩
   . refine(ok b u q).oI (fun c v hc r=>k c v ?_ r) (fun c r=>by rw[bj (nown c b r)];exact r) fun c xs r=>by rw[bj (ntup c xs r)];exact r
     rcases hc with rfl|hc
     . exact hbe
     . rintro rfl
       rcases he with z|z
       . exact nown c b hc z
       . rw[hc]at z;cases z;exact hb rfl
end
structure Un(fs ex:List Addr)(H H':Hp)(h h':Heap):Prop where
 keep:∀ b o,h.get? b=some o->H b=none->b∉fs->b∉ex->h'.get? b=some o
 slot:∀ b o,h.get? b=some o->H b=none->b∈fs->b∉ex->∃ sl,h'.get? b=some { o with slots:=sl }
 free:∀ b o,h.get? b=some o->H b=none->b∉ex->H' b=none
 there:∀ b o,h.get? b=some o->b∉ex->∃ o',h'.get? b=some o'
 tups:∀ b xs,H b=some (.tup xs)->H' b=some (.tup xs)
 frzs:∀ b o u,H b=some (.frz o u)->H' b=some (.frz o u)
 tbls:∀ b ps,H b=some (.tbl ps)->∃ more,H' b=some (.tbl (ps++more))
section
variable{fs fs' ex ex':List Addr}{H H1 H2:Hp}{h h1 h2 h':Heap}{a x e:Addr}{o:HO}
theorem Un.any(u:Un fs ex H H1 h h1){b:Addr}{ob:Obj}(q:h.get? b=some ob)(n:H b=none)(hx:b∉ex):∃ sl,h1.get? b=some { ob with slots:=sl }:=by
 by_cases hb:b∈fs
 . exact u.slot b ob q n hb hx
 . exact⟨ob.slots,u.keep b ob q n hb hx⟩
theorem Un.kept(k:∀ b u,h.get? b=some u->h'.get? b=some u):Un fs ex H H h h':=
 ⟨fun b ob q _ _ _=>k b ob q,fun b ob q _ _ _=>⟨ob.slots,k b ob q⟩,fun _ _ _ n _=>n,fun b ob q _=>⟨ob,k b ob q⟩,fun _ _ q=>q,fun _ _ _ q=>q,fun _ ps q=>⟨#[],by rw[q];simp⟩⟩
theorem Un.refl:Un fs ex H H h h:=Un.kept fun _ _ q=>q
theorem Un.laid(k:∀ b u,h.get? b=some u->h'.get? b=some u)(hp:h.objs.size<=a)(hn:H a=none):Un fs ex H (upd H a o) h h' where
 keep:=fun b u q _ _ _=>k b u q
 slot:=fun b u q _ _ _=>⟨u.slots,k b u q⟩
 free:=fun b u q n _=>by rw[bj (Nat.ne_of_lt (Nat.lt_of_lt_of_le (Heap.lt_size q) hp))];exact n
 there:=fun b u q _=>⟨u,k b u q⟩
 tups:=fun b xs q=>by rw[bj (cB q hn)];exact q
 frzs:=fun b u xs q=>by rw[bj (cB q hn)];exact q
 tbls:=fun b ps q=>⟨#[],by rw[bj (cB q hn),q];simp⟩
theorem Un.write(mu:Mut (H x))(he:e=x \/ H e=some (.own x))(k:∀ b u,b≠e->h.get? b=some u->h'.get? b=some u)(heo:∃ u,h'.get? e=some u):Un fs ex H (upd H x o) h h':=by
 have hx:∀ b,H b=none->b≠x:=fun b n z=>by subst z;rw[n]at mu;exact mu
 have hb:∀ b,H b=none->b≠e:=fun b n z=>by
  subst z
  rcases he with r|r
  . exact hx b n r
  . rw[n]at r;cases r
 have hm:∀ b u,H b=some u->¬ Mut (some u)->b≠x:=fun b u q nm z=>by subst z;rw[q]at mu;exact nm mu
 refine⟨fun b u q n _ _=>k b u (hb b n) q,fun b u q n _ _=>⟨u.slots,k b u (hb b n) q⟩,fun b u q n _=>by rw[bj (hx b n)];exact n,fun b u q _=>?_,
  fun b xs q=>by rw[bj (hm b _ q fun z=>z)];exact q,fun b u xs q=>by rw[bj (hm b _ q fun z=>z)];exact q,fun b ps q=>⟨#[],by rw[bj (hm b _ q fun z=>z),q];simp⟩⟩
 by_cases hbe:b=e
 . subst hbe;exact heo
 . exact⟨u,k b u hbe q⟩
end
noncomputable def trk(h:Heap)(H:Hp):List Addr:=(List.range h.objs.size).filter fun a=>(H a).isSome
noncomputable def sf(h:Heap)(H:Hp):Heap:=PySem.W.hideAll h (trk h H)
theorem xx(h:Heap)(H:Hp):(sf h H).objs.size=h.objs.size:=PySem.W.hideAll_size _ _
theorem zk{h:Heap}{H:Hp}{b:Addr}{o:Obj}(e:h.get? b=some o)(n:H b=none):(sf h H).get? b=some o:=
 PySem.W.hideAll_get _ e fun hm=>by
  have q:(H b).isSome=true:=(List.mem_filter.mp hm).2
  rw[n]at q;simp at q
theorem Be{h:Heap}{H:Hp}{b:Addr}{o:Obj}(e:(sf h H).get? b=some o):h.get? b=some o /\ H b=none:=by
 have e':h.get? b=some o:=PySem.W.of_hideAll (trk h H) e
 refine⟨e',?_⟩
 cases q:H b with
 |none=>rfl
 | some x=>
   have hm:b∈trk h H:=List.mem_filter.mpr ⟨List.mem_range.mpr (Heap.lt_size e'),by simp[q]⟩
   have z:(sf h H).get? b=none:=PySem.W.hideAll_none (trk h H) hm
   rw[z]at e;cases e
noncomputable def Bb(g h:Heap)(L:Addr):List (Addr×Obj):=(List.range h.objs.size).filterMap fun a=>if a=L \/ (g.get? a).isSome=true then none else(h.get? a).map fun o=>(a,o)
noncomputable def rest(g h:Heap)(L d:Addr):List (Addr×Obj):=(Bb g h L).filter fun p=>decide (p.1≠d)
structure Mod(K:PySem.W.Frag)(mg:Str->Option Value)(base:Heap):Prop where
 kin:K.In base
 glob:base.Ns mainGlobals mg
 blt:∃ mb,base.Ns builtinsNs mb /\ ∀ x:Str,x ≠ "__name__" -> mb x=bootBuiltins x
 nolimit:base.NoLimit
structure Cx where
 prog:Program
 w:World
 K:PySem.W.Frag
 mg:Str->Option Value
 base:Heap
 A:Around
 N:List Str
 s₀:Shared
 H₀:Hp
 env:Env
 outer:List Env
 stack:List Env
 ex:List Addr
 fn:Str->Bool
 calm:Bool
 pn:List (Addr×Obj)
 xe:Value->Shared->Prop
noncomputable def frs(l:List Env):List Addr:=l.filterMap (·.frame)
noncomputable abbrev Cx.fs(X:Cx):List Addr:=frs X.outer
noncomputable def Vis(sc:Scope)(x:Str):Prop:=sc.names.lookup x=some .local \/ sc.names.lookup x=some .cell \/ sc.names.lookup x=some .free
noncomputable def Loc(sc:Scope)(x:Str):Prop:=sc.names.lookup x=some .local \/ sc.names.lookup x=some .cell
noncomputable def Look(env:Env)(h:Heap)(m:Str->Option Value)(x:Str)(u:Value):Prop:=
 (env.kindOf x=some .local /\ m x=some u) \/ ((env.kindOf x=some .cell \/ env.kindOf x=some .free) /\ ∃ c,env.cells.lookup x=some c /\ h.IsCell c (some u))
structure Cx.Ok(X:Cx):Prop where
 mod:Mod X.K X.mg X.base
 kind:X.env.scope.kind=.function
 glob:X.env.globals=mainGlobals
 blt:X.env.builtins=builtinsNs
 above:X.s₀.heap.objs.size<=X.env.locals
 inj:∀ x y c,X.env.cells.lookup x=some c->X.env.cells.lookup y=some c->x=y
 has:∀ x,(X.env.kindOf x=some .cell \/ X.env.kindOf x=some .free)->∃ c,X.env.cells.lookup x=some c
 cab:∀ x c,X.fn x=true->X.env.cells.lookup x=some c->X.s₀.heap.objs.size<=c
 hd:X.calm=true->X.A.handled=none
 frames:X.A.frames=some X.stack
 stk:X.stack=X.outer \/ (X.stack=X.env ::X.outer /\ X.env.frame=some X.env.locals)
 exf:∀ b∈X.ex,b≠X.env.locals /\ ∀ x c,X.env.cells.lookup x=some c->c≠b
 bs:∀ b o,X.base.get? b=some o->X.s₀.heap.get? b=some o /\ X.H₀ b=none
 bsz:X.base.objs.size<=X.s₀.heap.objs.size
 noex:∀ b o,X.base.get? b=some o->b∉X.ex
 exfs:∀ b∈X.ex,b∉X.fs
 rM:X.s₀.heap.FunFrames X.base X.outer
 frf:∀ b∈X.fs,X.H₀ b=none
structure Inv(X:Cx)(pins:List (Addr×Obj))(σ:List (Option V))(H:Hp)(s:Shared):Prop where
 ok:X.Ok
 os:s.os=X.s₀.os
 bare:AllBare s.gens
 base:Un X.fs X.ex X.H₀ H X.s₀.heap s.heap
 loc:∃ m,s.heap.Ns X.env.locals m /\ ∀(i:Nat) (x:Str) (v:V),X.N[i]?=some x->σ[i]?=some (some v)->Vis X.env.scope x->∃ u,RelV v u /\ Look X.env s.heap m x u
 cell:∀ x c,X.env.cells.lookup x=some c->∃ v,s.heap.IsCell c v
 free:H X.env.locals=none
 freeC:∀ x c,X.env.cells.lookup x=some c->H c=none
 pin:∀ p∈X.pn++pins,s.heap.get? p.1=some p.2 /\ H p.1=none /\ p.1≠X.env.locals /\ p.1∉X.fs /\ ∀ v,p.2.data≠.cell v
 hok:HOk X.prog X.w H s.heap
 len:σ.length=X.N.length
section
variable{X:Cx}{pins:List (Addr×Obj)}{σ:List (Option V)}{H H':Hp}{s:Shared}{h':Heap}
theorem Cx.Ok.Hl(ok:X.Ok){b:Addr}{o:Obj}(e:X.base.get? b=some o):b∉X.fs:=fun hb=>by
 have:=(ok.rM.mem hb).1;rw[e]at this;cases this
theorem Inv.bs(I:Inv X pins σ H s):∀ b o,X.base.get? b=some o->s.heap.get? b=some o /\ H b=none:=fun b o e=>
 ⟨I.base.keep b o (I.ok.bs b o e).1 (I.ok.bs b o e).2 (I.ok.Hl e) (I.ok.noex b o e),I.base.free b o (I.ok.bs b o e).1 (I.ok.bs b o e).2 (I.ok.noex b o e)⟩
theorem Inv.bk(I:Inv X pins σ H s):∀ b o,X.base.get? b=some o->s.heap.get? b=some o:=fun b o e=>(I.bs b o e).1
theorem Inv.mod(I:Inv X pins σ H s):Mod X.K X.mg X.base:=I.ok.mod
theorem Inv.kIn(I:Inv X pins σ H s):X.K.In s.heap:=I.ok.mod.kin.keeps I.bk
theorem Inv.nolimit(I:Inv X pins σ H s):s.heap.NoLimit:=I.ok.mod.nolimit.keeps I.bk
theorem Inv.lt(I:Inv X pins σ H s):X.env.locals<s.heap.objs.size:=let ⟨_,hn,_⟩:=I.loc;hn.lt
theorem Inv.sz(I:Inv X pins σ H s):X.s₀.heap.objs.size<=s.heap.objs.size:=Nat.le_trans I.ok.above (Nat.le_of_lt I.lt)
theorem Inv.HB(I:Inv X pins σ H s){a:Addr}(h:s.heap.objs.size<=a):a∉X.fs:=fun hb=>by
 obtain⟨_,o,ho,_⟩:=I.ok.rM.mem hb;exact absurd (Nat.lt_of_lt_of_le (Heap.lt_size ho) (Nat.le_trans I.sz h)) (Nat.lt_irrefl _)
theorem Inv.cne(I:Inv X pins σ H s):∀ x c,X.env.cells.lookup x=some c->c≠X.env.locals:=fun x c e z=>by
 obtain⟨v,o,ho,hd⟩:=I.cell x c e;obtain⟨m,⟨o',es,ep,ho',hd',_⟩,_⟩:=I.loc;rw[z,ho']at ho;cases ho;rw[hd']at hd;cases hd
theorem Inv.rM(I:Inv X pins σ H s):s.heap.FunFrames X.base X.outer:=by
 have all:∀(l:List Env),(∀ b∈frs l,b∈X.fs)->X.s₀.heap.FunFrames X.base l->s.heap.FunFrames X.base l:=by
  intro l
  induction l with
  |nil=>intro _ _;trivial
  | cons env r ih=>
    intro hs hl;obtain⟨hk,⟨L,o,hf,hn,ho,hd⟩,hr⟩:=hl
    have hL:L∈X.fs:=hs L (by unfold frs;rw[List.filterMap_cons,hf];exact List.mem_cons_self)
    obtain⟨sl,e⟩:=I.base.slot L o ho (I.ok.frf L hL) hL fun z=>I.ok.exfs L z hL
    exact⟨hk,⟨L,_,hf,hn,e,hd⟩,ih (fun b hb=>hs b (by unfold frs;rw[List.filterMap_cons,hf];exact List.mem_cons_of_mem _ hb)) hr⟩
 exact all X.outer (fun _ hb=>hb) I.ok.rM
theorem Inv.stack(I:Inv X pins σ H s):s.heap.FunFrames X.base X.stack:=by
 rcases I.ok.stk with e|⟨e,hf⟩
 . rw[e];exact I.rM
 . rw[e];obtain⟨m,hn,_⟩:=I.loc;refine .cons (by rw[I.ok.kind];decide) hf hn ?_ I.rM;exact Heap.get?_none_of_le (Nat.le_trans I.ok.bsz I.ok.above)
theorem Inv.vi(I:Inv X pins σ H s):∀ b∈frs X.stack,b∈X.env.locals ::X.fs:=fun b hb=>by
 rcases I.ok.stk with e|⟨e,hf⟩
 . rw[e]at hb;exact List.mem_cons_of_mem _ hb
 . rw[e]at hb;unfold frs at hb;rw[List.filterMap_cons,hf]at hb;exact hb
theorem Inv.sq(I:Inv X pins σ H s):∀ b∈frs X.stack,H b=none:=fun b hb=>by
 rcases List.mem_cons.mp (I.vi b hb)with e|hb
 . rw[e];exact I.free
 . obtain⟨_,o,ho,_⟩:=I.ok.rM.mem hb
   exact I.base.free b o ho (I.ok.frf b hb) fun z=>I.ok.exfs b z hb
theorem Inv.step{g':Array GenState}{t':Nat}{d':Drawn}{ch:List Addr}(I:Inv X pins σ H s)
  (hch:∀ b∈ch,(b∈X.ex \/ X.s₀.heap.objs.size<=b) /\ b≠X.env.locals /\ (∀ x c,X.env.cells.lookup x=some c->c≠b) /\ ∀ p∈X.pn++pins,p.1≠b)
  (keep:∀ b o,b≠X.env.locals->b∉X.fs->b∉ch->s.heap.get? b=some o->H b=none->h'.get? b=some o)
  (slot:∀ b o,b≠X.env.locals->b∈X.fs->b∉ch->s.heap.get? b=some o->H b=none->∃ sl,h'.get? b=some { o with slots:=sl }) (free:∀ b o,b∉ch->s.heap.get? b=some o->H b=none->H' b=none)
  (there:∀ b o,b∉ch->s.heap.get? b=some o->∃ o',h'.get? b=some o')
  (tups:∀ b xs,H b=some (.tup xs)->H' b=some (.tup xs)) (frzs:∀ b o u,H b=some (.frz o u)->H' b=some (.frz o u)) (tbls:∀ b ps,H b=some (.tbl ps)->∃ more,H' b=some (.tbl (ps++more)))
  (ns:∀ m,s.heap.Ns X.env.locals m->h'.Ns X.env.locals m) (hok:HOk X.prog X.w H' h') (hg:AllBare g'):
  Inv X pins σ H' { s with heap:=h',gens:=g',drawn:=d',toks:=t' }:=by
 have neL:∀ b o,X.s₀.heap.get? b=some o->b≠X.env.locals:=fun b o e=>Nat.ne_of_lt (Nat.lt_of_lt_of_le (Heap.lt_size e) I.ok.above)
 have neC:∀ b o,X.s₀.heap.get? b=some o->b∉X.ex->b∉ch:=fun b o e hx hb=>by
  rcases(hch b hb).1 with z|z
  . exact hx z
  . exact absurd (Nat.lt_of_lt_of_le (Heap.lt_size e) z) (Nat.lt_irrefl _)
 have cellK:∀ x c,X.env.cells.lookup x=some c->∀ v,s.heap.IsCell c v->h'.IsCell c v:=fun x c e v ⟨o,ho,hd⟩=>by
  have nch:c∉ch:=fun z=>(hch c z).2.2.1 x c e rfl
  by_cases hc:c∈X.fs
  . obtain⟨sl,q⟩:=slot c o (I.cne x c e) hc nch ho (I.freeC x c e)
    exact⟨_,q,hd⟩
  . exact⟨o,keep c o (I.cne x c e) hc nch ho (I.freeC x c e),hd⟩
 refine⟨I.ok,I.os,hg,⟨fun b o e n hb hx=>?_,fun b o e n hb hx=>?_,fun b o e n hx=>?_,fun b o e hx=>?_,fun b xs e=>tups b xs (I.base.tups b xs e),fun b o xs e=>frzs b o xs (I.base.frzs b o xs e),fun b ps e=>?_⟩,?_,fun x c e=>?_,?_,fun x c e=>?_,fun p hp=>?_,hok,I.len⟩
 . exact keep b o (neL b o e) hb (neC b o e hx) (I.base.keep b o e n hb hx) (I.base.free b o e n hx)
 . obtain⟨sl,e1⟩:=I.base.slot b o e n hb hx;obtain⟨sl',e2⟩:=slot b _ (neL b o e) hb (neC b o e hx) e1 (I.base.free b o e n hx)
   exact⟨sl',e2⟩
 . obtain⟨o',e1⟩:=I.base.there b o e hx;exact free b o' (neC b o e hx) e1 (I.base.free b o e n hx)
 . obtain⟨o',e1⟩:=I.base.there b o e hx;exact there b o' (neC b o e hx) e1
 . obtain⟨m1,e1⟩:=I.base.tbls b ps e;obtain⟨m2,e2⟩:=tbls b _ e1
   exact⟨m1++m2,by rw[e2,Array.append_assoc]⟩
 . obtain⟨m,hn,hl⟩:=I.loc
   refine⟨m,ns m hn,fun i x v e1 e2 e3=>?_⟩
   obtain⟨u,r,l⟩:=hl i x v e1 e2 e3
   refine⟨u,r,?_⟩
   rcases l with l|⟨k,c,e,z⟩
   . exact .inl l
   . exact .inr ⟨k,c,e,cellK x c e _ z⟩
 . obtain⟨v,z⟩:=I.cell x c e
   exact⟨v,cellK x c e v z⟩
 . obtain⟨m,⟨o,_,_,ho,_⟩,_⟩:=I.loc;exact free _ o (fun z=>(hch _ z).2.1 rfl) ho I.free
 . obtain⟨v,o,ho,hd⟩:=I.cell x c e;exact free c o (fun z=>(hch c z).2.2.1 x c e rfl) ho (I.freeC x c e)
 . obtain⟨e,n,ne,nf,d⟩:=I.pin p hp
   have nch:p.1∉ch:=fun z=>(hch p.1 z).2.2.2 p hp rfl
   exact⟨keep p.1 p.2 ne nf nch e n,free p.1 p.2 nch e n,ne,nf,d⟩
theorem Inv.un{t':Nat}(I:Inv X pins σ H s)(u:Un X.fs [] H H' s.heap h')(hok:HOk X.prog X.w H' h'):Inv X pins σ H' { s with heap:=h',toks:=t' }:=by
 obtain⟨m,⟨o,es,ep,ho,r⟩,_⟩:=id I.loc;obtain⟨sl,hL⟩:=u.any ho I.free (by simp)
 exact I.step (g':=s.gens) (d':=s.drawn) (ch:=[]) (fun _ z=>nomatch z) (fun b o _ hb _ e n=>u.keep b o e n hb (by simp)) (fun b o _ hb _ e n=>u.slot b o e n hb (by simp)) (fun b o _ e n=>u.free b o e n (by simp)) (fun b o _ e=>u.there b o e (by simp)) u.tups u.frzs u.tbls (fun m' hm=>by
  obtain⟨o',es',ep',ho',r'⟩:=hm;rw[ho]at ho';cases ho'
  exact⟨_,es',ep',hL,r'⟩) hok I.bare
theorem Inv.call{g':Array GenState}{t':Nat}{d':Drawn}{ch:List Addr}(I:Inv X pins σ H s)(u:Un (frs X.stack) ch H H' s.heap h')(hok:HOk X.prog X.w H' h')(hg:AllBare g')
  (hch:∀ b∈ch,(b∈X.ex \/ X.s₀.heap.objs.size<=b) /\ b≠X.env.locals /\ (∀ x c,X.env.cells.lookup x=some c->c≠b) /\ ∀ p∈X.pn++pins,p.1≠b):
  Inv X pins σ H' { s with heap:=h',gens:=g',drawn:=d',toks:=t' }:=by
 obtain⟨m,⟨o,es,ep,ho,r⟩,_⟩:=id I.loc
 obtain⟨sl,hL⟩:=u.any ho I.free fun z=>(hch _ z).2.1 rfl
 exact I.step (ch:=ch) hch (fun b o hL hb hc e n=>u.keep b o e n (fun z=>(List.mem_cons.mp (I.vi b z)).elim hL hb) hc) (fun b o _ _ hc e n=>u.any e n hc) (fun b o hc e n=>u.free b o e n hc) (fun b o hc e=>u.there b o e hc) u.tups u.frzs u.tbls (fun m' hm=>by
  obtain⟨o',es',ep',ho',r'⟩:=hm;rw[ho]at ho';cases ho'
  exact⟨_,es',ep',hL,r'⟩) hok hg
theorem Inv.turned{t':Nat}{it:Addr}(I:Inv X pins σ H s)(k:∀ b o,b≠it->s.heap.get? b=some o->h'.get? b=some o)(hn:H it=none)(hL:it≠X.env.locals)
  (h1:it∈X.ex \/ X.s₀.heap.objs.size<=it) (h2:∀ x c,X.env.cells.lookup x=some c->c≠it) (h3:∀ p∈X.pn++pins,p.1≠it):Inv X pins σ H { s with heap:=h',toks:=t' }:=by
 have nit:∀ b u,H b=some u->b≠it:=fun b u e z=>by rw[z,hn]at e;cases e
 refine I.step (g':=s.gens) (d':=s.drawn) (ch:=[it]) (fun b hb=>?_) (fun b o _ _ hc e _=>k b o (fun z=>hc (by simp[z])) e) (fun b o _ _ hc e _=>⟨o.slots,k b o (fun z=>hc (by simp[z])) e⟩) (fun _ _ _ _ n=>n)
  (fun b o hc e=>⟨o,k b o (fun z=>hc (by simp[z])) e⟩) (fun _ _ e=>e) (fun _ _ _ e=>e) (fun b ps e=>⟨#[],by rw[e];simp⟩) (fun m hm=>?_) (fun b u e=>?_) I.bare
 . have e:b=it:=by simpa using hb
   subst e
   exact⟨h1,hL,h2,h3⟩
 . obtain⟨o,es,ep,ho,r⟩:=hm
   exact⟨o,es,ep,k _ o (Ne.symm hL) ho,r⟩
 . refine(I.hok b u e).oI (fun c v hc q=>k c v ?_ q) (fun _ q=>q) fun _ _ q=>q
   rcases hc with z|z
   . rw[z];exact nit b u e
   . exact nit c _ z
theorem Inv.tok(I:Inv X pins σ H s)(t:Nat):Inv X pins σ H { s with toks:=t }:=I.un (h':=s.heap) (t':=t) Un.refl I.hok
theorem Inv.kept{t':Nat}(I:Inv X pins σ H s)(k:∀ b u,s.heap.get? b=some u->h'.get? b=some u):Inv X pins σ H { s with heap:=h',toks:=t' }:=I.un (Un.kept k) (I.hok.kept k)
theorem Inv.laid{a:Addr}{o:HO}{t':Nat}(I:Inv X pins σ H s)(k:∀ b u,s.heap.get? b=some u->h'.get? b=some u)(hp:s.heap.objs.size<=a)(new:dA X.prog X.w (upd H a o) h' a o):
  Inv X pins σ (upd H a o) { s with heap:=h',toks:=t' }:=I.un (Un.laid k hp (I.hok.fresh hp)) (I.hok.laid k hp new)
theorem Inv.write{x e:Addr}{o:HO}{t':Nat}(I:Inv X pins σ H s)(mu:Mut (H x))(he:e=x \/ H e=some (.own x))(k:∀ b u,b≠e->s.heap.get? b=some u->h'.get? b=some u)(heo:∃ u,h'.get? e=some u)
  (new:dA X.prog X.w (upd H x o) h' x o):Inv X pins σ (upd H x o) { s with heap:=h',toks:=t' }:=I.un (Un.write mu he k heo) (I.hok.write mu he k heo new)
theorem Inv.wa{pins':List (Addr×Obj)}(I:Inv X pins σ H s)(h:∀ p∈pins',s.heap.get? p.1=some p.2 /\ H p.1=none /\ p.1≠X.env.locals /\ p.1∉X.fs /\ ∀ v,p.2.data≠.cell v):Inv X pins' σ H s:=
 ⟨I.ok,I.os,I.bare,I.base,I.loc,I.cell,I.free,I.freeC,fun p hp=>(List.mem_append.mp hp).elim (fun z=>I.pin p (List.mem_append_left _ z)) (h p),I.hok,I.len⟩
theorem tZ{N:List Str}(hN:N.Nodup){i j:Nat}{x:Str}(a:N[i]?=some x)(b:N[j]?=some x):i=j:=by
 obtain⟨h1,e1⟩:=List.getElem?_eq_some_iff.mp a;obtain⟨h2,e2⟩:=List.getElem?_eq_some_iff.mp b
 exact(List.getElem_inj hN).mp (e1.trans e2.symm)
theorem ye{M:Model}{A:Around}{E:Value->Shared->Prop}{i:Nat}{x:Str}{v:V}{u:Value}{Q:Unit->Shared->Prop}(I:Inv X pins σ H s)(hN:X.N.Nodup)(hi:X.N[i]?=some x)(hx:Loc X.env.scope x)(r:RelV v u)
  (h:∀ s',Inv X pins (σ.set i (some v)) H s'->(∃ a,Heap.SameBut a s.heap s'.heap /\ (a=X.env.locals \/ X.env.cells.lookup x=some a))->Q () s') (hf:X.fn x=true \/ X.env.scope.names.lookup x=some .local:=by first|exact .inl rfl|exact .inr rfl|assumption):wpAny M A (storeName X.env x u) Q E s:=by
 obtain⟨m,hn,hl⟩:=id I.loc
 have hcls:(X.env.scope.kind == .class||(X.env.scope.kind == .module&&X.env.locals != X.env.globals))=false:=by rw[I.ok.kind];rfl
 have hiσ:i<σ.length:=by rw[I.len];exact(List.getElem?_eq_some_iff.mp hi).1
 have cne:=I.cne
 have tracked:∀{a:Addr} {h':Heap},(∃ o,s.heap.get? a=some o /\ H a=none)->Heap.SameBut a s.heap h'->HOk X.prog X.w H h':=fun {a h'} ha hs b ob e=>by
  obtain⟨_,_,hfree⟩:=ha
  refine(I.hok b ob e).oI (fun c w' hc q=>(hs.2 c ?_).trans q) (fun _ q=>q) fun _ _ q=>q
  rintro rfl
  rcases hc with rfl|hc
  . rw[hfree]at e;cases e
  . rw[hfree]at hc;cases hc
 rcases hx with hk|hk
 . refine wpAny_storeName_local hk hn (fun h' hn' hs=>?_) hcls;obtain⟨oL,_,_,hoL,_⟩:=id hn;refine h _ ⟨I.ok,I.os,I.bare,⟨fun b o e n hb hx=>?_,fun b o e n hb hx=>?_,I.base.free,fun b o e hx=>?_,I.base.tups,I.base.frzs,I.base.tbls⟩,⟨_,hn',fun j y v' e1 e2 e3=>?_⟩,fun y c e=>?_,I.free,I.freeC,fun p hp=>?_,tracked ⟨oL,hoL,I.free⟩ hs,by simpa using I.len⟩ ⟨_,hs,.inl rfl⟩
   . exact(hs.2 b (Nat.ne_of_lt (Nat.lt_of_lt_of_le (Heap.lt_size e) I.ok.above))).trans (I.base.keep b o e n hb hx)
   . obtain⟨sl,e1⟩:=I.base.slot b o e n hb hx
     exact⟨sl,(hs.2 b (Nat.ne_of_lt (Nat.lt_of_lt_of_le (Heap.lt_size e) I.ok.above))).trans e1⟩
   . obtain⟨o',e1⟩:=I.base.there b o e hx
     exact⟨o',(hs.2 b (Nat.ne_of_lt (Nat.lt_of_lt_of_le (Heap.lt_size e) I.ok.above))).trans e1⟩
   . by_cases hj:j=i
     . subst hj;rw[hi]at e1;cases e1;rw[List.getElem?_set_self hiσ]at e2;cases e2
       exact⟨u,r,.inl ⟨hk,by simp⟩⟩
     . rw[List.getElem?_set_ne (Ne.symm hj)]at e2;obtain⟨u',r',q⟩:=hl j y v' e1 e2 e3
       refine⟨u',r',?_⟩
       rcases q with⟨k,e⟩|⟨k,c,e,z⟩
       . refine .inl ⟨k,?_⟩
         have:y≠x:=fun e=>hj (tZ hN e1 (e ▸ hi))
         simp[this,e]
       . exact .inr ⟨k,c,e,z.sameBut hs (cne y c e)⟩
   . obtain⟨w',z⟩:=I.cell y c e
     exact⟨w',z.sameBut hs (cne y c e)⟩
   . obtain⟨e,n,ne,nf,d⟩:=I.pin p hp
     exact⟨(hs.2 p.1 ne).trans e,n,ne,nf,d⟩
 . have hfn:X.fn x = true:=by
    rcases hf with z|z
    . exact z
    . rw[z]at hk;cases hk
   obtain⟨c,hc⟩:=I.ok.has x (.inl hk);obtain⟨w',z⟩:=I.cell x c hc;refine wpAny_storeName_cell I.ok.kind hk hc z (fun h' hc' hs=>?_);obtain⟨oc,hoc,hocd⟩:=id z;refine h { s with heap:=h' } ⟨I.ok,I.os,I.bare,⟨fun b o e n hb hx=>?_,fun b o e n hb hx=>?_,I.base.free,fun b o e hx=>?_,I.base.tups,I.base.frzs,I.base.tbls⟩,⟨m,hn.sameBut hs (Ne.symm (cne x c hc)),fun j y v' e1 e2 e3=>?_⟩,fun y c' e=>?_,I.free,I.freeC,fun p hp=>?_,tracked ⟨oc,hoc,I.freeC x c hc⟩ hs,by simpa using I.len⟩ ⟨c,hs,.inr hc⟩
   . exact(hs.2 b (Nat.ne_of_lt (Nat.lt_of_lt_of_le (Heap.lt_size e) (I.ok.cab x c hfn hc)))).trans (I.base.keep b o e n hb hx)
   . obtain⟨sl,e1⟩:=I.base.slot b o e n hb hx
     exact⟨sl,(hs.2 b (Nat.ne_of_lt (Nat.lt_of_lt_of_le (Heap.lt_size e) (I.ok.cab x c hfn hc)))).trans e1⟩
   . obtain⟨o',e1⟩:=I.base.there b o e hx
     exact⟨o',(hs.2 b (Nat.ne_of_lt (Nat.lt_of_lt_of_le (Heap.lt_size e) (I.ok.cab x c hfn hc)))).trans e1⟩
   . by_cases hj:j=i
     . subst hj;rw[hi]at e1;cases e1;rw[List.getElem?_set_self hiσ]at e2;cases e2
       exact⟨u,r,.inr ⟨.inl hk,c,hc,hc'⟩⟩
     . rw[List.getElem?_set_ne (Ne.symm hj)]at e2;obtain⟨u',r',q⟩:=hl j y v' e1 e2 e3
       refine⟨u',r',?_⟩
       rcases q with q|⟨k,c',e,z'⟩
       . exact .inl q
       . refine .inr ⟨k,c',e,z'.sameBut hs ?_⟩
         rintro rfl
         exact hj (tZ hN e1 (I.ok.inj _ _ _ e hc ▸ hi))
   . by_cases hcc:c'=c
     . subst hcc;exact⟨_,hc'⟩
     . obtain⟨w2,z2⟩:=I.cell y c' e
       exact⟨w2,z2.sameBut hs hcc⟩
   . obtain⟨e,n,ne,nf,d⟩:=I.pin p hp
     refine⟨(hs.2 p.1 ?_).trans e,n,ne,nf,d⟩
     intro q;rw[q,hoc]at e
     have q':oc=p.2:=Option.some.inj e
     exact d w' (by rw[<- q'];exact hocd)
theorem gB{M:Model}{A:Around}{E:Value->Shared->Prop}{i:Nat}{x:Str}{v:V}{u:Value}{Q:Unit->Shared->Prop}(I:Inv X pins σ H s)(hN:X.N.Nodup)(hi:X.N[i]?=some x)(hx:Loc X.env.scope x)(r:RelV v u)
  (h:∀ s',Inv X pins (σ.set i (some v)) H s'->Q () s') (hf:X.fn x=true \/ X.env.scope.names.lookup x=some .local:=by first|exact .inl rfl|exact .inr rfl|assumption):wpAny M A (storeName X.env x u) Q E s:=
 ye I hN hi hx r (fun s' I' _=>h s' I') hf
theorem Inv.B9{s':Shared}{ch:List Addr}(I:Inv X pins σ H s)(ho:s'.os=s.os)(u:Un (frs X.stack) ch H H' s.heap s'.heap)(hok:HOk X.prog X.w H' s'.heap)(hg:AllBare s'.gens)
  (hch:∀ b∈ch,(b∈X.ex \/ X.s₀.heap.objs.size<=b) /\ b≠X.env.locals /\ (∀ x c,X.env.cells.lookup x=some c->c≠b) /\ ∀ p∈X.pn++pins,p.1≠b):Inv X pins σ H' s':=by
 obtain⟨h',g',d',t',o'⟩:=s'
 have e:o'=s.os:=ho
 subst e;exact I.call (g':=g') (t':=t') (d':=d') u hok hg hch
end
abbrev XK:=Value->Option Addr->Hp->Prop
abbrev St:=List (Option V)
abbrev VK:=V->Hp->Prop
abbrev TE:=St->Hp->VK->Prop
abbrev TT:=St->Hp->(Bool->Hp->Prop)->Prop
abbrev TA:=St->Hp->(List V->Hp->Prop)->Prop
structure Ends where
 nx:St->Hp->Prop
 rt:VK
 bk:St->Hp->Prop:=fun _ _=>False
 ct:St->Hp->Prop:=fun _ _=>False
abbrev TS:=Ends->St->Hp->Prop
noncomputable def EP(X:Cx)(pins:List (Addr×Obj))(σ:St)(Q:VK)(u:Value)(s':Shared):Prop:=∃ v H',Inv X pins σ H' s' /\ RelV v u /\ Q v H'
noncomputable def TP(X:Cx)(pins:List (Addr×Obj))(σ:St)(Q:Bool->Hp->Prop)(b:Bool)(s':Shared):Prop:=∃ H',Inv X pins σ H' s' /\ Q b H'
noncomputable def AP(X:Cx)(pins:List (Addr×Obj))(σ:St)(Q:List V->Hp->Prop)(us:List Value)(s':Shared):Prop:=∃ vs H',Inv X pins σ H' s' /\ Vals vs us /\ Q vs H'
noncomputable def SP(X:Cx)(pins:List (Addr×Obj))(D:Ends)(f:Flow)(s':Shared):Prop:=
 match f with
 |.next=>∃ σ' H',Inv X pins σ' H' s' /\ D.nx σ' H'
 |.brk=>∃ σ' H',Inv X pins σ' H' s' /\ D.bk σ' H'
 |.cont=>∃ σ' H',Inv X pins σ' H' s' /\ D.ct σ' H'
 |.ret u=>∃ v σ' H',Inv X pins σ' H' s' /\ RelV v u /\ D.rt v H'
noncomputable def PE(X:Cx)(e:Expr)(t:TE):Prop:=
 ∀(pins:List (Addr×Obj)) (s:Shared) (σ:St) (H:Hp) (Q:VK),Inv X pins σ H s->t σ H Q->wpAny (model X.prog X.w) X.A (eval e X.env) (EP X pins σ Q) X.xe s
noncomputable def PT(X:Cx)(e:Expr)(t:TT):Prop:=
 ∀(pins:List (Addr×Obj)) (s:Shared) (σ:St) (H:Hp) (Q:Bool->Hp->Prop),Inv X pins σ H s->t σ H Q->wpAny (model X.prog X.w) X.A (isTrue e X.env (eval e X.env)) (TP X pins σ Q) X.xe s
noncomputable def PW(X:Cx)(e:Expr)(t:TT):Prop:=
 ∀(whole:Sem Value) (pins:List (Addr×Obj)) (s:Shared) (σ:St) (H:Hp) (Q:Bool->Hp->Prop),Inv X pins σ H s->t σ H Q->wpAny (model X.prog X.w) X.A (isTrue e X.env whole) (TP X pins σ Q) X.xe s
theorem PW.pt{X:Cx}{e:Expr}{t:TT}(h:PW X e t):PT X e t:=h _
noncomputable def PA(X:Cx)(es:List Expr)(t:TA):Prop:=
 ∀(pos:Pos) (pins:List (Addr×Obj)) (s:Shared) (σ:St) (H:Hp) (Q:List V->Hp->Prop),Inv X pins σ H s->t σ H Q->wpAny (model X.prog X.w) X.A (spliced (backTo pos (starEach es X.env))) (AP X pins σ Q) X.xe s
noncomputable def PS(X:Cx)(st:Stmt)(t:TS):Prop:=
 ∀(pins:List (Addr×Obj)) (s:Shared) (σ:St) (H:Hp) (D:Ends),Inv X pins σ H s->t D σ H->wpAny (model X.prog X.w) X.A (exec st X.env) (SP X pins D) X.xe s
noncomputable def PSs(X:Cx)(st:List Stmt)(t:TS):Prop:=
 ∀(pins:List (Addr×Obj)) (s:Shared) (σ:St) (H:Hp) (D:Ends),Inv X pins σ H s->t D σ H->wpAny (model X.prog X.w) X.A (execs st X.env) (SP X pins D) X.xe s
theorem thn{α:Type}{t:Sem α}{Q Q':α->Shared->Prop}{M:Model}{A:Around}{E:Value->Shared->Prop}{s:Shared}(h:wpAny M A t Q E s)(hQ:∀ a s,Q a s->Q' a s):wpAny M A t Q' E s:=wpAny_mono h hQ fun _ _ x=>x
section
variable{X:Cx}
theorem bin{a b:Expr}{ta tb:TE}(ha:PE X a ta)(hb:PE X b tb){pins:List (Addr×Obj)}{s:Shared}{σ:St}{H:Hp}{R:V->V->Hp->Prop}(I:Inv X pins σ H s)(h:ta σ H fun x H1=>tb σ H1 fun y H2=>R x y H2)
  {α:Type} {Q:α->Shared->Prop} {f:Value->Value->Sem α}
  (hf:∀ v u s2 x y H2,Inv X pins σ H2 s2->RelV x v->RelV y u->R x y H2->wpAny (model X.prog X.w) X.A (f v u) Q X.xe s2):
  wpAny (model X.prog X.w) X.A (eval a X.env) (fun v s₁=>wpAny (model X.prog X.w) X.A (eval b X.env) (fun u s₂=>wpAny (model X.prog X.w) X.A (f v u) Q X.xe s₂) X.xe s₁) X.xe s:=by
 refine thn (ha pins s σ H _ I h) fun v s1 ⟨x,H1,I1,r1,q1⟩=>?_
 refine thn (hb pins s1 σ H1 _ I1 q1) fun u s2 ⟨y,H2,I2,r2,q2⟩=>?_
 exact hf v u s2 x y H2 I2 r1 r2 q2
noncomputable def uR(i:Nat):TE:=fun σ H Q=>∃ v,σ[i]?=some (some v) /\ Q v H
noncomputable def tC(v:V):TE:=fun _ H Q=>Q v H
theorem EB{i:Nat}{x:Str}{pos:Pos}(hN:X.N[i]?=some x)(hv:Vis X.env.scope x)(hd:(x==("__debug__":Str))=false:=by decide)(hcd:(x==("__classdict__":Str))=false:=by decide):PE X (.Name x pos) (uR i):=by
 intro pins s σ H Q I h;obtain⟨v,e,h⟩:=h;obtain⟨m,hn,hl⟩:=I.loc;obtain⟨u,r,l⟩:=hl i x v hN e hv
 have fin:EP X pins σ Q u s:=⟨v,H,I,r,h⟩
 rcases l with⟨hk,hm⟩|⟨hk,c,hc,hcell⟩
 . exact wpAny_Name (wpAny_loadName_local I.ok.kind hk hn hm fin) hd
 . rcases hk with hk|hk
   . exact wpAny_Name (wpAny_loadName_cell I.ok.kind hk hc hcell fin) hd
   . exact wpAny_Name (wpAny_loadName_free I.ok.kind hk hc hcell fin hcd) hd
theorem C7{i j pos}:PE X (.Constant (.int i) j pos) (tC (.int i)):=fun _ _ _ H _ I h=>wpAny_Constant_int ⟨.int i,H,I.tok _,⟨_,rfl⟩,h⟩
theorem FG{b j pos}:PE X (.Constant (.bool b) j pos) (tC (.bl b)):=fun _ _ _ H _ I h=>Constant_bool ⟨.bl b,H,I,rfl,h⟩
theorem DF{j pos}:PE X (.Constant .none j pos) (tC .non):=fun _ _ _ H _ I h=>Constant_none ⟨.non,H,I,rfl,h⟩
theorem C9{x j pos}:PE X (.Constant (.str x) j pos) (tC (.str x)):=fun _ _ _ H _ I h=>Calls.Constant_str ⟨.str x,H,I.tok _,⟨_,rfl⟩,h⟩
noncomputable def Gl(X:Cx)(x:Str):Prop:=X.env.kindOf x=some .globalImplicit
theorem wM{E:Value->Shared->Prop}{pins:List (Addr×Obj)}{s:Shared}{σ:St}{H:Hp}{x:Str}{u:Value}{pos:Pos}{Q:Value->Shared->Prop}(I:Inv X pins σ H s)(hg:Gl X x)(hm:X.mg x=some u)(h:Q u s)
  (hd:(x==("__debug__":Str))=false:=by decide):wpAny (model X.prog X.w) X.A (eval (.Name x pos) X.env) Q E s:=
 Calls.Name_function_global I.ok.kind hg (Calls.loadGlobal_global (by rw[I.ok.glob];exact I.mod.glob.keeps I.bk) hm h) hd
theorem qf{E:Value->Shared->Prop}{pins:List (Addr×Obj)}{s:Shared}{σ:St}{H:Hp}{x:Str}{u:Value}{pos:Pos}{Q:Value->Shared->Prop}(I:Inv X pins σ H s)(hg:Gl X x)(hm:X.mg x=none)(hv:bootBuiltins x=some u)(h:Q u s)
  (hn:x ≠ "__name__":=by decide) (hd:(x==("__debug__":Str))=false:=by decide):wpAny (model X.prog X.w) X.A (eval (.Name x pos) X.env) Q E s:=by
 obtain⟨mb,h1,h2⟩:=I.mod.blt;exact Calls.Name_function_global I.ok.kind hg (Calls.loadGlobal_builtin (by rw[I.ok.glob];exact I.mod.glob.keeps I.bk) hm (by rw[I.ok.blt];exact h1.keeps I.bk) ((h2 x hn).trans hv) h) hd
theorem AE{x:Str}{v:V}{u:Value}{pos:Pos}(hg:Gl X x)(hm:X.mg x=some u)(r:RelV v u)(hd:(x==("__debug__":Str))=false:=by decide):PE X (.Name x pos) (tC v):=
 fun _ _ _ H _ I h=>wM I hg hm ⟨v,H,I,r,h⟩ hd
theorem AK{x:Str}{v:V}{u:Value}{pos:Pos}(hg:Gl X x)(hm:X.mg x=none)(hv:bootBuiltins x=some u)(r:RelV v u)(hn:x ≠ "__name__":=by decide)(hd:(x==("__debug__":Str))=false:=by decide):PE X (.Name x pos) (tC v):=
 fun _ _ _ H _ I h=>qf I hg hm hv ⟨v,H,I,r,h⟩ hn hd
variable{a b:Expr}{ta tb:TE}{pos:Pos}
noncomputable def PC(X:Cx)(op:CmpOp)(a b:Expr)(t:TE):Prop:=
 ∀(pins:List (Addr×Obj)) (s:Shared) (σ:St) (H:Hp) (Q:VK),Inv X pins σ H s->t σ H Q ->
   wpAny (model X.prog X.w) X.A (eval a X.env) (fun v s₁=>wpAny (model X.prog X.w) X.A (eval b X.env) (fun u s₂=>wpAny (model X.prog X.w) X.A (compareOp op v u) (EP X pins σ Q) X.xe s₂) X.xe s₁) X.xe s
theorem uo(b:Expr){op:CmpOp}(h:op≠.In)(h2:op≠.NotIn):behindInMarks op b=false:=by
 have e1:(op==CmpOp.In)=false:=by cases op<;>first|rfl|exact absurd rfl h
 have e2:(op==CmpOp.NotIn)=false:=by cases op<;>first|rfl|exact absurd rfl h2
 cases b<;>simp[behindInMarks,e1,e2]
noncomputable def tB(t:TE):TT:=fun σ H Q=>t σ H fun x H1=>∃ c,x=.bl c /\ Q c H1
theorem DT{op:CmpOp}{t:TE}(h:PC X op a b t)(h1:behindInMarks op b=false:=by first|exact uo _ (by decide) (by decide)|rfl):PT X (.Compare a [op] [b] pos) (tB t):=by
 intro pins s σ H Q I hw;refine wpAny_isTrue_Compare1 (thn (h pins s σ H _ I hw) fun v s1 h1=>thn h1 fun u s2 h2=>thn h2 fun c s3 ⟨x,H1,I1,r1,q1⟩=>?_) h1;obtain⟨d,rfl,q⟩:=q1;cases r1;exact wpAny_truthy_bool ⟨H1,I1,q⟩
variable{tA tB':TT}{rest:List Expr}
noncomputable def D8(t u:TT):TT:=fun σ H Q=>t σ H fun c H1=>if c=true then u σ H1 Q else Q false H1
noncomputable def tOr(t u:TT):TT:=fun σ H Q=>t σ H fun c H1=>if c=true then Q true H1 else u σ H1 Q
noncomputable def EX(t:TT):TT:=fun σ H Q=>t σ H fun c H1=>Q (!c) H1
theorem BR(ha:PT X a tA):PW X (.BoolOp .And [a] pos) tA:=by
 intro wh pins s σ H Q I h;refine isTrue_and (thn (ha pins s σ H Q I h) fun c s1 e=>?_)
 cases c with
 |true=>exact isTrue_and_nil e
 |false=>exact e
theorem DS(ha:PT X a tA):PW X (.BoolOp .Or [a] pos) tA:=by
 intro wh pins s σ H Q I h;refine isTrue_or (thn (ha pins s σ H Q I h) fun c s1 e=>?_)
 cases c with
 |false=>exact isTrue_or_nil e
 |true=>exact e
theorem DO(ha:PT X a tA)(hb:PW X (.BoolOp .And (b ::rest) pos) tB'):PW X (.BoolOp .And (a ::b ::rest) pos) (D8 tA tB'):=by
 intro wh pins s σ H Q I h;refine isTrue_and (thn (ha pins s σ H _ I h) fun c s1 ⟨H1,I1,q1⟩=>?_)
 cases c with
 |true=>exact hb wh pins s1 σ H1 Q I1 q1
 |false=>exact⟨H1,I1,q1⟩
theorem FU(ha:PT X a tA)(hb:PW X (.BoolOp .Or (b ::rest) pos) tB'):PW X (.BoolOp .Or (a ::b ::rest) pos) (tOr tA tB'):=by
 intro wh pins s σ H Q I h;refine isTrue_or (thn (ha pins s σ H _ I h) fun c s1 ⟨H1,I1,q1⟩=>?_)
 cases c with
 |true=>exact⟨H1,I1,q1⟩
 |false=>exact hb wh pins s1 σ H1 Q I1 q1
theorem EW(ha:PT X a tA):PT X (.UnaryOp .Not a pos) (EX tA):=by
 intro pins s σ H Q I h;exact isTrue_not (ha pins s σ H (fun c H1=>Q (!c) H1) I h)
noncomputable def zi(ta tb:TE):TE:=fun σ H Q=>ta σ H fun x H1=>∃ c,x=.bl c /\ if c=true then tb σ H1 Q else Q (.bl false) H1
noncomputable def Dg(ta tb:TE):TE:=fun σ H Q=>ta σ H fun x H1=>∃ c,x=.bl c /\ if c=true then Q (.bl true) H1 else tb σ H1 Q
noncomputable def zS(ta:TE):TE:=fun σ H Q=>ta σ H fun x H1=>∃ c,x=.bl c /\ Q (.bl (!c)) H1
theorem C1{op}{t:TE}(h:PE X a t):PE X (.BoolOp op [a] pos) t:=fun pins s σ H Q I hw=>BoolOp_one (h pins s σ H Q I hw)
theorem Ee(ha:PE X a ta)(hb:PE X (.BoolOp .And (b ::rest) pos) tb):PE X (.BoolOp .And (a ::b ::rest) pos) (zi ta tb):=by
 intro pins s σ H Q I h;refine BoolOp_and (thn (ha pins s σ H _ I h) fun v s1 ⟨x,H1,I1,r1,q1⟩=>?_);obtain⟨c,rfl,q1⟩:=q1;cases r1;refine wpAny_truthy_bool ?_
 cases c with
 |true=>exact hb pins s1 σ H1 Q I1 q1
 |false=>exact⟨.bl false,H1,I1,rfl,q1⟩
theorem FA(ha:PE X a ta)(hb:PE X (.BoolOp .Or (b ::rest) pos) tb):PE X (.BoolOp .Or (a ::b ::rest) pos) (Dg ta tb):=by
 intro pins s σ H Q I h;refine BoolOp_or (thn (ha pins s σ H _ I h) fun v s1 ⟨x,H1,I1,r1,q1⟩=>?_);obtain⟨c,rfl,q1⟩:=q1;cases r1;refine wpAny_truthy_bool ?_
 cases c with
 |false=>exact hb pins s1 σ H1 Q I1 q1
 |true=>exact⟨.bl true,H1,I1,rfl,q1⟩
theorem DI(ha:PE X a ta):PE X (.UnaryOp .Not a pos) (zS ta):=by
 intro pins s σ H Q I h;refine UnaryOp_ (thn (ha pins s σ H _ I h) fun v s1 ⟨x,H1,I1,r1,q1⟩=>?_);obtain⟨c,rfl,q1⟩:=q1;cases r1;exact not_of (wpAny_truthy_bool ⟨.bl (!c),H1,I1,rfl,q1⟩)
noncomputable def tIf(t:TT)(ta tb:TE):TE:=fun σ H Q=>t σ H fun c H1=>if c=true then ta σ H1 Q else tb σ H1 Q
theorem yG{c:Expr}(hc:PT X c tA)(ha:PE X a ta)(hb:PE X b tb):PE X (.IfExp c a b pos) (tIf tA ta tb):=by
 intro pins s σ H Q I h;refine wpAny_IfExp (thn (hc pins s σ H _ I h) fun d s1 ⟨H1,I1,q1⟩=>?_)
 cases d with
 |true=>exact ha pins s1 σ H1 Q I1 q1
 |false=>exact hb pins s1 σ H1 Q I1 q1
end
noncomputable def SqL(K:PySem.W.Frag)(H:Hp)(a:Addr)(xs:List V):Prop:=
 Rd H a (.lst xs) \/
  ∃(o:Obj) (its:Array Value) (n:Nat),K.lookup a=some o /\ o.cls=.type "list" /\ o.dict=none /\ o.data=.seq its n /\ its.size<=sizeLine /\ Vals xs its.toList
noncomputable def SqT(K:PySem.W.Frag)(H:Hp)(a:Addr)(xs:List V):Prop:=
 Rd H a (.tup xs) \/
  ∃(o:Obj) (its:Array Value) (n:Nat),K.lookup a=some o /\ o.cls=.type "tuple" /\ o.data=.seq its n /\ its.size<=sizeLine /\ Vals xs its.toList
noncomputable def Ha:Value->Option V
 |.none=>some .non
 |.bool b=>some (.bl b)
 |.int i _=>some (.int i)
 |.str x _=>some (.str x)
 |.bytes b _=>some (.byt b)
 |.float b _=>some (.flt b)
 |.ref a=>some (.ref a)
 |.type n=>some (.ty n)
 |_=>none
theorem RelV.abs{x:V}{u:Value}(r:RelV x u):Ha u=some x:=by
 cases x with
 |non=>cases r;rfl
 |bl _=>cases r;rfl
 |int _=>obtain⟨t,rfl⟩:=r;rfl
 |str _=>obtain⟨t,rfl⟩:=r;rfl
 |byt _=>obtain⟨t,rfl⟩:=r;rfl
 |flt _=>obtain⟨t,rfl⟩:=r;rfl
 |ref _=>cases r;rfl
 |ty _=>cases r;rfl
theorem RelV.inj{x y:V}{u:Value}(r:RelV x u)(q:RelV y u):x=y:=Option.some.inj (r.abs.symm.trans q.abs)
theorem Vals.inj:∀{xs ys:List V} {us:List Value},Vals xs us->Vals ys us->xs=ys
 |_,_,_,.nil,.nil=>rfl
 |_,_,_,.cons r t,.cons r' t'=>by rw[r.inj r',Vals.inj t t']
section
variable{X:Cx}{pins:List (Addr×Obj)}{σ:St}{H:Hp}{s:Shared}{a:Addr}{xs ys:List V}
theorem Inv.list(I:Inv X pins σ H s)(h:SqL X.K H a xs):∃ its:List Value,Vals xs its /\ PlainL s.heap a its.toArray /\ xs.length<=sizeLine:=by
 rcases h with h|⟨o,its,n,hk,hc,hd,hs,hz,r⟩
 . obtain⟨z,its,n,r,e⟩:=h.ok I.hok
   exact⟨its,r,⟨_,n,e,rfl,rfl,rfl⟩,z⟩
 . refine⟨its.toList,r,⟨o,n,I.kIn a o hk,hc,hd,by simpa using hs⟩,?_⟩
   have e:=r.length;simp only[Array.length_toList]at e;omega
theorem Inv.tuple(I:Inv X pins σ H s)(h:SqT X.K H a xs):∃ its:List Value,Vals xs its /\ IsTup s.heap a its.toArray /\ xs.length<=sizeLine:=by
 rcases h with h|⟨o,its,n,hk,hc,hs,hz,r⟩
 . obtain⟨z,its,r,p⟩:=h.ok I.hok
   exact⟨its,r,p,z⟩
 . refine⟨its.toList,r,⟨o,I.kIn a o hk,hc,n,by simpa using hs⟩,?_⟩
   have e:=r.length;simp only[Array.length_toList]at e;omega
theorem Inv.um(I:Inv X pins σ H s)(h:SqL X.K H a xs)(h':SqL X.K H a ys):xs=ys:=by
 obtain⟨its,r,⟨o,n,e,_,_,d⟩,_⟩:=I.list h;obtain⟨its',r',⟨o',n',e',_,_,d'⟩,_⟩:=I.list h';rw[e]at e';cases e';rw[d]at d'
 injection d' with d1 _
 have:its=its':=by simpa using congrArg Array.toList d1
 subst this;exact r.inj r'
end
section
variable{X:Cx}{st:Stmt}{rest:List Stmt}{t u:TS}{e:Expr}{te:TE}{pos:Pos}
noncomputable def yz:TS:=fun D σ H=>D.nx σ H
noncomputable def Dx(t u:TS):TS:=fun D σ H=>t { D with nx:=u D } σ H
theorem A6:PSs X [] yz:=fun _ _ σ H _ I h=>wpAny_execs_nil ⟨σ,H,I,h⟩
theorem zH(h1:PS X st t)(h2:PSs X rest u):PSs X (st ::rest) (Dx t u):=by
 intro pins s σ H D I h;refine wpAny_execs_cons (thn (h1 pins s σ H { D with nx:=u D } I h) fun f s1 q=>?_)
 cases f with
 | next=>
   obtain⟨σ',H',I',q⟩:=q;exact h2 pins s1 σ' H' D I' q
 |ret v=>exact q
 |brk=>exact q
 |cont=>exact q
theorem A1(h1:PS X st t):PSs X [st] t:=by
 intro pins s σ H D I h;refine wpAny_execs_cons (thn (h1 pins s σ H D I h) fun f s1 q=>?_)
 cases f with
 |next=>exact wpAny_execs_nil q
 |ret v=>exact q
 |brk=>exact q
 |cont=>exact q
theorem Inv.quiet{pins:List (Addr×Obj)}{σ:St}{H:Hp}{s:Shared}(I:Inv X pins σ H s):interactive X.env=false:=by simp[interactive,I.ok.kind]
noncomputable def pG(te:TE):TS:=fun D σ H=>te σ H fun _ H1=>D.nx σ H1
theorem BA(he:PE X e te)(hs:swapsWith e none pos.line X.env=pure false:=by rfl):PS X (.Expr e pos) (pG te):=by
 intro pins s σ H D I h;exact wpAny_Expr_any (thn (he pins s σ H _ I h) fun v s1 ⟨x,H1,I1,r1,q1⟩=>⟨σ,H1,I1,q1⟩) I.quiet hs
noncomputable def Bi(te:TE):TS:=fun D σ H=>te σ H D.rt
theorem C8(he:PE X e te):PS X (.Return (some e) pos) (Bi te):=by
 intro pins s σ H D I h;exact wpAny_Return_some (thn (he pins s σ H _ I h) fun v s1 ⟨x,H1,I1,r1,q1⟩=>⟨x,σ,H1,I1,r1,q1⟩)
noncomputable def En(c:TT)(t u:TS):TS:=fun D σ H=>c σ H fun b H1=>if b=true then t D σ H1 else u D σ H1
theorem Ff{c:Expr}{a b:List Stmt}{tc:TT}(hc:PT X c tc)(ha:PSs X a t)(hb:PSs X b u):PS X (.If c a b pos) (En tc t u):=by
 intro pins s σ H D I h;refine wpAny_If (thn (hc pins s σ H _ I h) fun d s1 ⟨H1,I1,q1⟩=>?_)
 cases d with
 |true=>exact ha pins s1 σ H1 D I1 q1
 |false=>exact hb pins s1 σ H1 D I1 q1
end
abbrev TG:=V->St->Hp->(St->Hp->Prop)->Prop
abbrev TGs:=List V->St->Hp->(St->Hp->Prop)->Prop
noncomputable def PG(X:Cx)(target:Expr)(t:TG):Prop:=
 ∀(pins:List (Addr×Obj)) (s:Shared) (σ:St) (H:Hp) (v:V) (u:Value) (Q:St->Hp->Prop),Inv X pins σ H s->RelV v u->t v σ H Q ->
   wpAny (model X.prog X.w) X.A (assign target X.env u) (fun _ s'=>∃ σ' H',Inv X pins σ' H' s' /\ Q σ' H') X.xe s
noncomputable def PGs(X:Cx)(ts:List Expr)(t:TGs):Prop:=
 ∀(pins:List (Addr×Obj)) (s:Shared) (σ:St) (H:Hp) (vs:List V) (us:List Value) (Q:St->Hp->Prop),Inv X pins σ H s->Vals vs us->t vs σ H Q ->
   wpAny (model X.prog X.w) X.A (assignInOrder ((assignEach ts X.env).map (·.2)) us) (fun _ s'=>∃ σ' H',Inv X pins σ' H' s' /\ Q σ' H') X.xe s
abbrev BQ:=V->V->V->Hp->(Hp->Prop)->Prop
noncomputable def DX(X:Cx)(t:BQ):Prop:=
 ∀(pins:List (Addr×Obj)) (s:Shared) (σ:St) (H:Hp) (o i v:V) (ov iv u:Value) (Q:Hp->Prop),Inv X pins σ H s->RelV o ov->RelV i iv->RelV v u->t o i v H Q ->
   wpAny (model X.prog X.w) X.A (setItem ov iv u) (fun _ s'=>∃ H',Inv X pins σ H' s' /\ Q H') X.xe s
section
variable{X:Cx}{pos:Pos}
noncomputable def gH(i:Nat):TG:=fun v σ H Q=>Q (σ.set i (some v)) H
theorem AA{i:Nat}{x:Str}(hN:X.N.Nodup)(hi:X.N[i]?=some x)(hx:Loc X.env.scope x)(hf:X.fn x=true \/ X.env.scope.names.lookup x=some .local:=by first|exact .inl rfl|exact .inr rfl|assumption):PG X (.Name x pos) (gH i):=by
 intro pins s σ H v u Q I r h;exact wpAny_assign_Name (gB I hN hi hx r (fun s' I'=>⟨_,H,I',h⟩) hf)
noncomputable def C6:TGs:=fun vs σ H Q=>vs=[] /\ Q σ H
noncomputable def vY(t:TG)(u:TGs):TGs:=fun vs σ H Q=>∃ v r,vs=v ::r /\ t v σ H fun σ' H'=>u r σ' H' Q
theorem Bp:PGs X [] C6:=by
 intro pins s σ H vs us Q I r h;obtain⟨e,h⟩:=h;subst e;cases r;exact assignInOrder_nil ⟨σ,H,I,h⟩
theorem zg{e:Expr}{es:List Expr}{t:TG}{u:TGs}(h1:PG X e t)(h2:PGs X es u)
  (hs:(assignEach (e ::es) X.env).map (·.2)=assign e X.env ::(assignEach es X.env).map (·.2):=by rfl):PGs X (e ::es) (vY t u):=by
 intro pins s σ H vs us Q I r h;obtain⟨v,vr,e1,h⟩:=h;subst e1
 cases r with
 | cons r rr=>
   rw[hs];refine assignInOrder_cons (thn (h1 pins s σ H _ _ _ I r h) fun _ s1 ⟨σ1,H1,I1,q1⟩=>?_);exact h2 pins s1 σ1 H1 _ _ Q I1 rr q1
noncomputable def Dy(K:PySem.W.Frag)(n:Nat)(t:TGs):TG:=fun v σ H Q=>∃ a xs,v=.ref a /\ SqT K H a xs /\ xs.length=n /\ t xs σ H Q
theorem DU{es:List Expr}{k:Nat}{t:TGs}{n:Nat}(hc:X.calm=true)(h:PGs X es t)
  (hn:(assignEach es X.env).length=n:=by rfl) (hst:(assignEach es X.env).findIdx? (·.1)=none:=by rfl):PG X (.Tuple es k pos) (Dy X.K n t):=by
 intro pins s σ H v u Q I r hw;obtain⟨a,xs,e1,hq,hl,hw⟩:=hw;subst e1;cases r;obtain⟨its,rv,ht,hz⟩:=I.tuple hq
 refine assign_Tuple_tuple (I.ok.hd hc) ht (by simp[hn,<- hl,rv.length]) hst fun h' hx=>?_
 have I1:Inv X pins σ H { s with heap:=h' }:=I.kept (t':=s.toks) fun b o e=>hx b o (Nat.ne_of_lt (Heap.lt_size e)) e
 exact h pins _ σ H xs _ Q I1 (by simpa using rv) hw
noncomputable def EA(to ti:TE)(t:BQ):TG:=fun v σ H Q=>to σ H fun o H1=>ti σ H1 fun i H2=>t o i v H2 fun H3=>Q σ H3
theorem DV{o i:Expr}{to ti:TE}{t:BQ}(ho:PE X o to)(hi:PE X i ti)(hs:DX X t)
  (ha:∀ v,assign (.Subscript o i pos) X.env v=(do
    let ov <- holding [v] (eval o X.env)
    let iv <- holding [v,ov] (eval i X.env)
    standAt pos
    holding [v,ov,iv] (setItem ov iv v)
    release [v,ov,iv] []):=by intro _;rfl):PG X (.Subscript o i pos) (EA to ti t):=by
 intro pins s σ H v u Q I r h;rw[ha];refine wpAny_bind (wpAny_holding (thn (ho pins s σ H _ I h) fun ov s1 ⟨x,H1,I1,r1,q1⟩=>?_));refine wpAny_bind (wpAny_holding (thn (hi pins s1 σ H1 _ I1 q1) fun iv s2 ⟨y,H2,I2,r2,q2⟩=>?_));refine wpAny_bind (wpAny_standAt (wpAny_bind (wpAny_holding (thn (hs pins s2 σ H2 x y v ov iv u _ I2 r1 r2 r q2) fun _ s3 ⟨H3,I3,q3⟩=>?_))));exact wpAny_release ⟨σ,H3,I3,q3⟩
noncomputable def nT(te:TE)(g:TG):TS:=fun D σ H=>te σ H fun x H1=>g x σ H1 D.nx
theorem EC{tg e:Expr}{te:TE}{g:TG}(he:PE X e te)(hg:PG X tg g)(hs:swapsWithSole [tg] e pos.line X.env=pure false:=by rfl)(hw:swappedStores [tg] e X.env=pure none:=by rfl)
  (h1:(assignEach [tg] X.env).map (·.2)=[assign tg X.env]:=by rfl):PS X (.Assign [tg] e pos) (nT te g):=by
 intro pins s σ H D I h;refine wpAny_Assign_stores (thn (he pins s σ H _ I h) fun v s1 ⟨x,H1,I1,r1,q1⟩=>?_) hs hw;rw[h1]
 exact thn (hg pins s1 σ H1 x v _ I1 r1 q1) fun _ s2 q=>q
theorem E0{i:Nat}{x:Str}{e:Expr}{te:TE}{pos':Pos}(hN:X.N.Nodup)(hi:X.N[i]?=some x)(hx:Loc X.env.scope x)(he:PE X e te)(hs:swapsWith e (some (.Name x pos')) pos.line X.env=pure false:=by rfl)(hf:X.fn x=true \/ X.env.scope.names.lookup x=some .local:=by first|exact .inl rfl|exact .inr rfl|assumption):
  PS X (.Assign [.Name x pos'] e pos) (nT te (gH i)):=by
 intro pins s σ H D I h;refine wpAny_Assign_Name (thn (he pins s σ H _ I h) fun v s1 ⟨y,H1,I1,r1,q1⟩=>?_) hs;exact gB I1 hN hi hx r1 (fun s2 I2=>⟨_,H1,I2,q1⟩) hf
end
section
variable{X:Cx}{pos:Pos}
noncomputable def uI(c:TT)(tb:TS):TS:=fun D σ H=>∃ W:Nat->St->Hp->Prop,(∃ m,W m σ H) /\ ∀ m σ H,W m σ H ->
 c σ H fun b H1=>if b=true then ∃ N:St->Hp->Prop,(∀ σ' H',N σ' H'->∃ m',m'<m /\ W m' σ' H') /\ tb { D with nx:=N,ct:=N,bk:=D.nx } σ H1 else D.nx σ H1
theorem zP{c:Expr}{body:List Stmt}{tc:TT}{tb:TS}(hp:PassesOwn (model X.prog X.w) X.A X.env X.xe)(hc:PT X c tc)(hb:PSs X body tb):PS X (.While c body [] pos) (uI tc tb):=by
 intro pins s σ H D I h;obtain⟨W,⟨m0,w0⟩,turn⟩:=h;refine wpAny_While (codeAny_whileLoop (fun n s'=>∃ σ' H',Inv X pins σ' H' s' /\ W n σ' H') ?_ m0 ⟨σ,H,I,w0⟩)
 rintro n s1 ⟨σ1,H1,I1,w1⟩
 refine wpAny_passesOwn hp (thn (hc pins s1 σ1 H1 _ I1 (turn n σ1 H1 w1)) fun b s2 ⟨H2,I2,q2⟩=>?_)
 cases b with
 | true=>
   obtain⟨N,hN,q2⟩:=q2;rw[if_pos rfl];refine wpAny_passesOwn hp (thn (hb pins s2 σ1 H2 _ I2 q2) fun f s3 q3=>?_)
   cases f with
   | next=>
     obtain⟨σ3,H3,I3,n3⟩:=q3;obtain⟨m',hm,w3⟩:=hN σ3 H3 n3
     exact⟨m',hm,σ3,H3,I3,w3⟩
   | cont=>
     obtain⟨σ3,H3,I3,n3⟩:=q3;obtain⟨m',hm,w3⟩:=hN σ3 H3 n3
     exact⟨m',hm,σ3,H3,I3,w3⟩
   |brk=>exact q3
   |ret v=>exact q3
 | false=>
   rw[if_neg Bool.false_ne_true];exact wpAny_execs_nil ⟨σ1,H2,I2,q2⟩
end
structure It where
 go:Nat->Hp->Prop
 yld:Nat->Hp->V->Hp->Prop
 stop:Nat->Hp->Prop
noncomputable def jk(X:Cx)(pins:List (Addr×Obj))(H:Hp)(b:Addr):Prop:=
 H b=none /\ b≠X.env.locals /\ b∉X.fs /\ (b∈X.ex \/ X.s₀.heap.objs.size<=b) /\ (∀ x c,X.env.cells.lookup x=some c->c≠b) /\ ∀ p∈X.pn++pins,p.1≠b
theorem Inv.xC{X:Cx}{pins:List (Addr×Obj)}{σ:St}{H H':Hp}{s:Shared}{b:Addr}(I:Inv X pins σ H s)(hb:s.heap.objs.size<=b)(hn:H' b=none):jk X pins H' b:=by
 refine⟨hn,Nat.ne_of_gt (Nat.lt_of_lt_of_le I.lt hb),I.HB hb,.inr (Nat.le_trans I.sz hb),fun x c e z=>?_,fun p hp z=>?_⟩
 . obtain⟨v,q⟩:=I.cell x c e;exact absurd (Nat.lt_of_lt_of_le q.lt (by rw[z];exact hb)) (Nat.lt_irrefl _)
 . exact absurd (Nat.lt_of_lt_of_le (Heap.lt_size (I.pin p hp).1) (by rw[z];exact hb)) (Nat.lt_irrefl _)
structure Turn(P:Program)(w:World)(K:PySem.W.Frag)(tg:Expr)(J:It)(fp:List Addr)(it:Addr)(tn:Nat->Heap->Prop):Prop where
 mem:it∈fp
 obj:∀ i h,tn i h->∀ b∈fp,∃ o,h.get? b=some o /\ ∀ v,o.data≠.cell v
 keep:∀ i h h',tn i h->(∀ b∈fp,∀ o,h.get? b=some o->h'.get? b=some o)->tn i h'
 item:∀(X:Cx),X.prog=P->X.w=w->X.K=K->X.calm=true->∀(i:Nat) (pins:List (Addr×Obj)) (s:Shared) (σ:St) (H:Hp) (E:Value->Shared->Prop),Inv X pins σ H s->(∀ b∈fp,jk X pins H b)->tn i s.heap->J.go i H ->
  wpAny (model P w) X.A (pyNext (.ref it)) (fun r s1=>∃ u,r=some u /\
   wpAny (model P w) X.A (letOwnedTupleGo tg (.ref it) u) (fun _ s2=>∃ x H',Inv X pins σ H' s2 /\ RelV x u /\ J.yld i H x H' /\ tn (i+1) s2.heap /\ ∀ b∈fp,H' b=none) E s1) E s
 done:∀(X:Cx),X.prog=P->X.w=w->X.K=K->X.calm=true->∀(i:Nat) (pins:List (Addr×Obj)) (s:Shared) (σ:St) (H:Hp) (E:Value->Shared->Prop),Inv X pins σ H s->(∀ b∈fp,jk X pins H b)->tn i s.heap->J.stop i H ->
  wpAny (model P w) X.A (pyNext (.ref it)) (fun r s1=>r=none /\ Inv X pins σ H s1) E s
 self:∀(A:Around) (i:Nat) (s:Shared) (Q:Value->Shared->Prop) (E:Value->Shared->Prop),tn i s.heap->Q (.ref it) s->wpAny (model P w) A (pyIter (.ref it)) Q E s
abbrev TI:=St->Hp->(It->Hp->Prop)->Prop
noncomputable def PIE(X:Cx)(pins:List (Addr×Obj))(σ:St)(tg:Expr)(R:It->Hp->Prop)(itv:Value)(s2:Shared):Prop:=
 ∃(it:Addr) (fp:List Addr) (tn:Nat->Heap->Prop) (J:It) (H':Hp),itv=.ref it /\ Inv X pins σ H' s2 /\ Turn X.prog X.w X.K tg J fp it tn /\ tn 0 s2.heap /\ (∀ b∈fp,jk X pins H' b) /\ R J H'
noncomputable def PI(X:Cx)(tg iter:Expr)(wi:TI):Prop:=
 ∀(pins:List (Addr×Obj)) (s:Shared) (σ:St) (H:Hp) (R:It->Hp->Prop),Inv X pins σ H s->wi σ H R ->
   wpAny (model X.prog X.w) X.A (eval iter X.env) (fun v s1=>wpAny (model X.prog X.w) X.A (pyIter v) (PIE X pins σ tg R) X.xe s1) X.xe s
theorem yu{M:Model}{A:Around}{E:Value->Shared->Prop}{s:Shared}{tg:Expr}{it:Addr}{u:Value}{o:Obj}{n:String}{vs:Array Value}{Q:Unit->Shared->Prop}(ho:s.heap.get? it=some o)(hc:o.cls=.type n)(hd:o.data=.fields vs)
  (hn:["enumerate","zip","dict_itemiterator","dict_reverseitemiterator","odict_iterator","itertools.zip_longest","itertools.pairwise"].contains n=false) (hQ:Q () s):wpAny M A (letOwnedTupleGo tg (.ref it) u) Q E s:=by
 unfold letOwnedTupleGo
 cases tg<;>first
  |exact wpAny_pure hQ
  | (cases u <;> first
      |exact wpAny_pure hQ
      | (refine wpAny_bind (wpAny_load ho ?_)
         rw[hc,hd];show wpAny M A (if(["enumerate","zip","dict_itemiterator","dict_reverseitemiterator","odict_iterator","itertools.zip_longest","itertools.pairwise"].contains n&&vs[0]?==some (rawInt _))=true then _ else _) Q E s;rw[if_neg (by intro h;rw[hn,Bool.false_and]at h;cases h)]
         exact wpAny_pure hQ))
noncomputable def Itl(K:PySem.W.Frag)(a:Addr):It:=
 ⟨fun i H=>∃ xs x,SqL K H a xs /\ xs[i]?=some x,fun i H x H'=>H'=H /\ ∀ xs,SqL K H a xs->xs[i]?=some x,fun i H=>∃ xs,SqL K H a xs /\ xs.length<=i⟩
noncomputable def Itt(K:PySem.W.Frag)(a:Addr):It:=
 ⟨fun i H=>∃ xs x,SqT K H a xs /\ xs[i]?=some x,fun i H x H'=>H'=H /\ ∀ xs,SqT K H a xs->xs[i]?=some x,fun i H=>∃ xs,SqT K H a xs /\ xs.length<=i⟩
noncomputable def Itr(lo:Int)(n:Nat):It:=⟨fun i _=>i<n,fun i H x H'=>H'=H /\ x=.int (lo+i),fun i _=>n<=i⟩
theorem xi{P:Program}{w:World}{K:PySem.W.Frag}{tg:Expr}(a it:Addr):Turn P w K tg (Itl K a) [it] it (fun i h=>h.IsListIter it a i) where
 mem:=by simp
 obj:=fun i h st b hb=>by
  have e:b=it:=by simpa using hb
  subst e;obtain⟨o,e,c,d⟩:=st
  exact⟨o,e,fun v z=>by rw[d]at z;cases z⟩
 keep:=fun i h h' st k=>st.at fun o e=>k it (by simp) o e
 item:=by
  intro X hP hw hK hc i pins s σ H E I hf st hg;subst hP hw hK;obtain⟨xs,x,hq,hx⟩:=hg;obtain⟨its,rv,p,hz⟩:=I.list hq;obtain⟨u,hu,ru⟩:=rv.get hx;obtain⟨f0,f1,f2,f3,f4,f5⟩:=hf it (by simp)
  refine wpAny_pyNext_list_item st p.isList (x:=u) (by simpa using hu) fun h' st' sb=>?_
  have I1:Inv X pins σ H { s with heap:=h' }:=I.turned (t':=s.toks) (fun b o hb e=>(sb.2 b hb).trans e) f0 f1 f3 f4 f5
  obtain⟨o,e,c,d⟩:=id st'
  exact⟨u,rfl,yu (s:={ s with heap:=h' }) e c d (by decide) ⟨x,H,I1,ru,⟨rfl,fun ys hy=>by rw[I.um hy hq];exact hx⟩,st',fun b hb=>(hf b hb).1⟩⟩
 done:=by
  intro X hP hw hK hc i pins s σ H E I hf st hg;subst hP hw hK;obtain⟨xs,hq,hx⟩:=hg;obtain⟨its,rv,p,hz⟩:=I.list hq;obtain⟨f0,f1,f2,f3,f4,f5⟩:=hf it (by simp);have hl:=rv.length
  exact wpAny_pyNext_list_end (I.ok.hd hc) st p.isList (by simp;omega) fun h' eb=>⟨rfl,I.turned (t':=s.toks) (fun b o hb e=>eb b o hb e) f0 f1 f3 f4 f5⟩
 self:=fun _ _ _ _ _ st h=>wpAny_pyIter_listiter st h
theorem vD{P:Program}{w:World}{K:PySem.W.Frag}{tg:Expr}(it:Addr)(lo:Int)(n:Nat):Turn P w K tg (Itr lo n) [it] it (fun i h=>IsRangeIter h it (lo+(i:Nat)*1) ((n:Int) - (i:Nat)) 1) where
 mem:=by simp
 obj:=fun i h st b hb=>by
  have e:b=it:=by simpa using hb
  subst e
  exact⟨_,st,fun v z=>by
   have z':Data.fields _=Data.cell v:=z
   cases z'⟩
 keep:=fun i h h' st k=>k it (by simp) _ st
 item:=by
  intro X hP hw hK hc i pins s σ H E I hf st hg;subst hP hw hK;obtain⟨f0,f1,f2,f3,f4,f5⟩:=hf it (by simp);have W:=Walks.range (prog:=X.prog) (w:=X.w) (I.ok.hd hc) it lo 1 n
  refine W.item i s _ _ hg st fun v h' tk hv st' kk=>?_
  obtain⟨t,rfl⟩:=hv
  have I1:Inv X pins σ H { s with heap:=h',toks:=tk }:=I.turned (fun b o hb e=>kk b o (by simpa using hb) e) f0 f1 f3 f4 f5
  refine⟨_,rfl,yu (s:={ s with heap:=h',toks:=tk }) (n:="range_iterator") st' rfl rfl (by decide) ⟨.int (lo+i),H,I1,⟨t,?_⟩,⟨rfl,rfl⟩,st',fun b hb=>(hf b hb).1⟩⟩
  rw[Int.mul_one]
 done:=by
  intro X hP hw hK hc i pins s σ H E I hf st hg;subst hP hw hK;obtain⟨f0,f1,f2,f3,f4,f5⟩:=hf it (by simp)
  exact wpAny_pyNext_range_end (I.ok.hd hc) st (by have:n<=i:=hg;omega) fun h' eb=>⟨rfl,I.turned (t':=s.toks) (fun b o hb e=>eb b o hb e) f0 f1 f3 f4 f5⟩
 self:=fun _ _ _ _ _ st h=>wpAny_pyIter_rangeiter st h
section
variable{X:Cx}{tg:Expr}
noncomputable def tG(K:PySem.W.Frag)(tl:TE):TI:=fun σ H R=>tl σ H fun x H1=>∃ a,x=.ref a /\ (∃ xs,SqL K H1 a xs) /\ R (Itl K a) H1
noncomputable def GX(K:PySem.W.Frag)(tl:TE):TI:=fun σ H R=>tl σ H fun x H1=>∃ a,x=.ref a /\ (∃ xs,SqT K H1 a xs) /\ R (Itt K a) H1
theorem BK{l:Expr}{tl:TE}(hl:PE X l tl):PI X tg l (tG X.K tl):=by
 intro pins s σ H R I h
 refine thn (hl pins s σ H _ I h) fun v s1 ⟨x,H1,I1,r1,q1⟩=>?_
 obtain⟨a,e,⟨xs,hq⟩,q⟩:=q1;subst e;cases r1;obtain⟨its,rv,p,hz⟩:=I1.list hq;refine wpAny_pyIter_list p.isList ?_
 refine⟨s1.heap.objs.size,[s1.heap.objs.size],_,_,H1,rfl,I1.kept (t':=s1.toks) fun b o e=>Heap.get?_push_of_some _ e,xi a _,⟨_,Heap.get?_push_size _ rfl,rfl,rfl⟩,fun b hb=>?_,q⟩
 have e:b=s1.heap.objs.size:=by simpa using hb
 subst e;exact I1.xC (Nat.le_refl _) (I1.hok.fresh (Nat.le_refl _))
theorem zq{pins:List (Addr×Obj)}{σ:St}{H:Hp}{s:Shared}{R:It->Hp->Prop}{E:Value->Shared->Prop}{lo hi:Int}{t u v:Tok}{tk:Nat}(I:Inv X pins σ H s)(h1:-(2 ^ 62)<=lo)(h2:lo<2 ^ 62)(h3:-(2 ^ 62)<=hi)(h4:hi<2 ^ 62)
  (q:R (Itr lo (hi - lo).toNat) H):wpAny (model X.prog X.w) X.A (pyIter (.ref s.heap.objs.size)) (PIE X pins σ tg R) E { s with heap:=s.heap.push { cls:=.type "range",data:=.fields #[.int lo t,.int hi u,.int 1 v] },toks:=tk }:=by
 refine wpAny_pyIter_range (IsRange.new ..) (small_one h1 h2 h3 h4) ?_
 have I1:Inv X pins σ H { s with heap:=s.heap.push { cls:=.type "range",data:=.fields #[.int lo t,.int hi u,.int 1 v] },toks:=tk }:=I.kept fun b o e=>Heap.get?_push_of_some _ e
 refine⟨(s.heap.push { cls:=.type "range",data:=.fields #[.int lo t,.int hi u,.int 1 v] }).objs.size,[(s.heap.push { cls:=.type "range",data:=.fields #[.int lo t,.int hi u,.int 1 v] }).objs.size],_,_,H,rfl,
  I1.kept (t':=tk) fun b o e=>Heap.get?_push_of_some _ e,vD _ lo (hi - lo).toNat,?_,fun b hb=>?_,q⟩
 . have e1:lo+((0:Nat):Int)*1=lo:=by simp
   have e2:(((hi - lo).toNat:Nat):Int) - ((0:Nat):Int)=Builtin.Range.rangeSize lo hi 1:=by rw[rangeSize_one];split<;>omega
   show IsRangeIter _ _ (lo+((0:Nat):Int)*1) ((((hi - lo).toNat:Nat):Int) - ((0:Nat):Int)) 1;rw[e1,e2];exact Heap.get?_push_size _ rfl
 . have e:b=(s.heap.push { cls:=.type "range",data:=.fields #[.int lo t,.int hi u,.int 1 v] }).objs.size:=by simpa using hb
   subst e;exact I1.xC (Nat.le_refl _) (I1.hok.fresh (Nat.le_refl _))
noncomputable def vS(ta:TA):TI:=fun σ H R=>ta σ H fun vs H1=>∃ j:Int,vs=[.int j] /\ -(2 ^ 62)<=j /\ j<2 ^ 62 /\ R (Itr 0 j.toNat) H1
theorem xF{a:Expr}{ta:TA}{p pos:Pos}(hg:Gl X "range")(hm:X.mg "range" = none)(ha:PA X [a] ta)(hs:starEach [a] X.env=[(false,eval a X.env)]:=by rfl):PI X tg (.Call (.Name "range" p) [a] [] pos) (vS ta):=by
 intro pins s σ H R I h;refine Call_ (qf I hg hm boot_range (PyProof.Rows.callWith_type1 (thn (ha pos pins s σ H _ I h) fun us s1 ⟨vs,H1,I1,r1,q1⟩=>?_) hs rfl));obtain⟨j,e,q1,q2,q⟩:=q1;subst e
 cases r1 with
 | cons r rr=>
   cases rr;obtain⟨t,rfl⟩:=r;exact call_range_1 (zq I1 (by omega) (by omega) q1 q2 (by simpa using q))
noncomputable def yq(wi:TI)(g:TG)(tb:TS):TS:=fun D σ H=>wi σ H fun J H1=>∃ W:Nat->Nat->St->Hp->Prop,(∃ m,W 0 m σ H1) /\ ∀ i m σ H,W i m σ H ->
 (J.stop i H /\ D.nx σ H) \/ (J.go i H /\ ∃ N:St->Hp->Prop,(∀ σ' H',N σ' H'->∃ m',m'<m /\ W (i+1) m' σ' H') /\ ∀ x H',J.yld i H x H'->g x σ H' fun σ2 H2=>tb { D with nx:=N,ct:=N,bk:=D.nx } σ2 H2)
noncomputable def rW(fp:List Addr)(h:Heap):List (Addr×Obj):=fp.filterMap fun b=>(h.get? b).map fun o=>(b,o)
theorem bS{fp:List Addr}{h:Heap}{b:Addr}{o:Obj}(hb:b∈fp)(e:h.get? b=some o):(b,o)∈rW fp h:=List.mem_filterMap.mpr ⟨b,hb,by rw[e];rfl⟩
theorem xr{fp:List Addr}{h:Heap}{p:Addr×Obj}(hp:p∈rW fp h):p.1∈fp /\ h.get? p.1=some p.2:=by
 obtain⟨b,hb,e⟩:=List.mem_filterMap.mp hp
 cases q:h.get? b with
 |none=>rw[q]at e;cases e
 | some o=>
   rw[q]at e
   have e':(b,o)=p:=Option.some.inj e
   subst e'
   exact⟨hb,q⟩
theorem Inv.pinned{pins:List (Addr×Obj)}{σ:St}{H:Hp}{s:Shared}{fp:List Addr}(I:Inv X pins σ H s)(hf:∀ b∈fp,jk X pins H b)(ho:∀ b∈fp,∃ o,s.heap.get? b=some o /\ ∀ v,o.data≠.cell v):Inv X (pins++rW fp s.heap) σ H s:=
 I.wa fun p hp=>(List.mem_append.mp hp).elim (fun z=>I.pin p (List.mem_append_right _ z)) fun z=>by
  obtain⟨hb,e⟩:=xr z;obtain⟨f0,f1,f2,_⟩:=hf p.1 hb;obtain⟨o,e',d⟩:=ho p.1 hb;rw[e]at e';cases e'
  exact⟨e,f0,f1,f2,d⟩
theorem Inv.eh{pins pl:List (Addr×Obj)}{σ:St}{H:Hp}{s:Shared}(I:Inv X (pins++pl) σ H s):Inv X pins σ H s:=I.wa fun p hp=>I.pin p (List.mem_append_right _ (List.mem_append_left _ hp))
theorem Dc{iter:Expr}{body:List Stmt}{wi:TI}{g:TG}{tb:TS}{pos:Pos}(hp:PassesOwn (model X.prog X.w) X.A X.env X.xe)(hc:X.calm=true)(hi:PI X tg iter wi)(hg:PG X tg g)(hb:PSs X body tb)
  (hs:∀ x,foldedSetIterable iter X.env x=pure x:=by intro _;rfl):PS X (.For tg iter body [] pos) (yq wi g tb):=by
 intro pins s σ H D I h;refine wpAny_For (thn (hi pins s σ H _ I h) fun v s1 h1=>thn h1 fun itv s2 h2=>?_) hs;obtain⟨it,fp,tn,J,H2,e,I2,T,st2,f2,W,⟨m0,w0⟩,turn⟩:=h2;subst e
 have stat:∀{H':Hp},(∀ b∈fp,H' b=none)->∀ b∈fp,jk X pins H' b:=fun hn b hb=>⟨hn b hb,(f2 b hb).2⟩
 refine codeAny_forLoop_any (fun n s'=>∃ i σ' H',Inv X pins σ' H' s' /\ tn i s'.heap /\ (∀ b∈fp,H' b=none) /\ W i n σ' H') ?_ m0 ⟨0,σ,H2,I2,st2,fun b hb=>(f2 b hb).1,w0⟩
 rintro n s3 ⟨i,σ3,H3,I3,st3,fr3,w3⟩
 rcases turn i n σ3 H3 w3 with⟨stop,qn⟩|⟨go,N,hN,step⟩
 . refine wpAny_passesOwn hp (thn (T.done X rfl rfl rfl hc i pins s3 σ3 H3 X.xe I3 (stat fr3) st3 stop) fun r s4 ⟨hr,I4⟩=>?_);subst hr;exact wpAny_execs_nil ⟨σ3,H3,I4,qn⟩
 . refine wpAny_passesOwn hp (thn (T.item X rfl rfl rfl hc i pins s3 σ3 H3 X.xe I3 (stat fr3) st3 go) fun r s4 ⟨u,hr,h4⟩=>?_);subst hr;refine wpAny_passesOwn hp (thn h4 fun _ s5 ⟨x,H5,I5,r5,y5,st5,fr5⟩=>?_)
   have I5':=I5.pinned (stat fr5) (T.obj _ _ st5)
   refine wpAny_passesOwn hp (thn (hg _ s5 σ3 H5 x u _ I5' r5 (step x H5 y5)) fun _ s6 ⟨σ6,H6,I6,q6⟩=>?_);refine wpAny_passesOwn hp (thn (hb _ s6 σ6 H6 _ I6 q6) fun f s7 q7=>?_)
   have again:∀{σ7:St} {H7:Hp},Inv X (pins++rW fp s5.heap) σ7 H7 s7->N σ7 H7->∃ m,m<n /\ ∃ i σ' H',Inv X pins σ' H' s7 /\ tn i s7.heap /\ (∀ b∈fp,H' b=none) /\ W i m σ' H':=fun {σ7 H7} I7 n7=>by
    obtain⟨m',hm,w7⟩:=hN σ7 H7 n7
    refine⟨m',hm,i+1,σ7,H7,I7.eh,T.keep _ _ _ st5 fun b hb o e=>(I7.pin (b,o) (List.mem_append_right _ (List.mem_append_right _ (bS hb e)))).1,fun b hb=>?_,w7⟩
    obtain⟨o,e,d⟩:=T.obj _ _ st5 b hb
    exact(I7.pin (b,o) (List.mem_append_right _ (List.mem_append_right _ (bS hb e)))).2.1
   cases f with
   |next=>obtain⟨σ7,H7,I7,n7⟩:=q7;exact again I7 n7
   |cont=>obtain⟨σ7,H7,I7,n7⟩:=q7;exact again I7 n7
   |brk=>obtain⟨σ7,H7,I7,q7⟩:=q7;exact⟨σ7,H7,I7.eh,q7⟩
   |ret v=>obtain⟨x7,σ7,H7,I7,r7,q7⟩:=q7;exact⟨x7,σ7,H7,I7.eh,r7,q7⟩
end
theorem zR{K:PySem.W.Frag}{a:Addr}{xs:List V}{g:TG}{tb:TS}{D:Ends}{σ:St}{H:Hp}(Pv:Nat->St->Hp->Prop)(h0:Pv 0 σ H)(hl:∀ i σ H,i<=xs.length->Pv i σ H->SqL K H a xs)
  (hs:∀ i x σ H,xs[i]?=some x->Pv i σ H->g x σ H fun σ2 H2=>tb { D with nx:=Pv (i+1),ct:=Pv (i+1),bk:=D.nx } σ2 H2) (hd:∀ σ H,Pv xs.length σ H->D.nx σ H):
  ∃ W:Nat->Nat->St->Hp->Prop,(∃ m,W 0 m σ H) /\ ∀ i m σ H,W i m σ H ->
    ((Itl K a).stop i H /\ D.nx σ H) \/ ((Itl K a).go i H /\ ∃ N:St->Hp->Prop,(∀ σ' H',N σ' H'->∃ m',m'<m /\ W (i+1) m' σ' H') /\ ∀ x H',(Itl K a).yld i H x H'->g x σ H' fun σ2 H2=>tb { D with nx:=N,ct:=N,bk:=D.nx } σ2 H2):=by
 refine⟨fun i m σ H=>m=xs.length - i /\ i<=xs.length /\ Pv i σ H,⟨xs.length,by simp,Nat.zero_le _,h0⟩,?_⟩
 rintro i m σ H ⟨rfl,hi,p⟩
 have q:=hl i σ H hi p
 by_cases hlt:i<xs.length
 . refine .inr ⟨⟨xs,xs[i],q,by simp[hlt]⟩,Pv (i+1),fun σ' H' p'=>⟨xs.length - (i+1),by omega,rfl,hlt,p'⟩,fun x H' y=>?_⟩;obtain⟨e,y⟩:=y;subst e;exact hs i x σ _ (y xs q) p
 . have e:i=xs.length:=by omega
   subst e;exact .inl ⟨⟨xs,q,Nat.le_refl _⟩,hd σ H p⟩
theorem xo{lo:Int}{n:Nat}{g:TG}{tb:TS}{D:Ends}{σ:St}{H:Hp}(Pv:Nat->St->Hp->Prop)(h0:Pv 0 σ H)
  (hs:∀ i σ H,i<n->Pv i σ H->g (.int (lo+i)) σ H fun σ2 H2=>tb { D with nx:=Pv (i+1),ct:=Pv (i+1),bk:=D.nx } σ2 H2) (hd:∀ σ H,Pv n σ H->D.nx σ H):
  ∃ W:Nat->Nat->St->Hp->Prop,(∃ m,W 0 m σ H) /\ ∀ i m σ H,W i m σ H ->
    ((Itr lo n).stop i H /\ D.nx σ H) \/ ((Itr lo n).go i H /\ ∃ N:St->Hp->Prop,(∀ σ' H',N σ' H'->∃ m',m'<m /\ W (i+1) m' σ' H') /\ ∀ x H',(Itr lo n).yld i H x H'->g x σ H' fun σ2 H2=>tb { D with nx:=N,ct:=N,bk:=D.nx } σ2 H2):=by
 refine⟨fun i m σ H=>m=n - i /\ i<=n /\ Pv i σ H,⟨n,by simp,Nat.zero_le _,h0⟩,?_⟩
 rintro i m σ H ⟨rfl,hi,p⟩
 by_cases hlt:i<n
 . refine .inr ⟨hlt,Pv (i+1),fun σ' H' p'=>⟨n - (i+1),by omega,rfl,hlt,p'⟩,fun x H' y=>?_⟩;obtain⟨e,y⟩:=y;subst e y;exact hs i σ _ hlt p
 . have e:i=n:=by omega
   subst e;exact .inl ⟨Nat.le_refl _,hd σ H p⟩
abbrev R2:=V->V->Hp->VK->Prop
noncomputable def OpR(X:Cx)(f:Value->Value->Sem Value)(r:R2):Prop:=
 ∀(pins:List (Addr×Obj)) (s:Shared) (σ:St) (H:Hp) (x y:V) (v u:Value) (Q:VK),Inv X pins σ H s->RelV x v->RelV y u->r x y H Q ->
   wpAny (model X.prog X.w) X.A (f v u) (EP X pins σ Q) X.xe s
noncomputable def UnR(X:Cx)(f:Value->Sem Value)(r:V->Hp->VK->Prop):Prop:=
 ∀(pins:List (Addr×Obj)) (s:Shared) (σ:St) (H:Hp) (x:V) (v:Value) (Q:VK),Inv X pins σ H s->RelV x v->r x H Q ->
   wpAny (model X.prog X.w) X.A (f v) (EP X pins σ Q) X.xe s
noncomputable def iC(X:Cx)(f:Value)(r:List V->Hp->VK->Prop):Prop:=
 ∀(pins:List (Addr×Obj)) (s:Shared) (σ:St) (H:Hp) (xs:List V) (us:List Value) (Q:VK),Inv X pins σ H s->Vals xs us->r xs H Q ->
   wpAny (model X.prog X.w) X.A (call f us) (EP X pins σ Q) X.xe s
noncomputable def HA(X:Cx)(r:V->Hp->(Bool->Hp->Prop)->Prop):Prop:=
 ∀(pins:List (Addr×Obj)) (s:Shared) (σ:St) (H:Hp) (x:V) (v:Value) (Q:Bool->Hp->Prop),Inv X pins σ H s->RelV x v->r x H Q ->
   wpAny (model X.prog X.w) X.A (truthy v) (TP X pins σ Q) X.xe s
noncomputable def tOp(r:R2)(ta tb:TE):TE:=fun σ H Q=>ta σ H fun x H1=>tb σ H1 fun y H2=>r x y H2 Q
noncomputable def tUn(r:V->Hp->VK->Prop)(ta:TE):TE:=fun σ H Q=>ta σ H fun x H1=>r x H1 Q
noncomputable def rI(C:Int->Int->Prop)(g:Int->Int->V):R2:=fun x y H Q=>∃ i j,x=.int i /\ y=.int j /\ C i j /\ Q (g i j) H
noncomputable def rI0(g:Int->Int->V):R2:=fun x y H Q=>∃ i j,x=.int i /\ y=.int j /\ Q (g i j) H
noncomputable def rU(g:Int->V):V->Hp->VK->Prop:=fun x H Q=>∃ i,x=.int i /\ Q (g i) H
section
variable{X:Cx}{a b c:Expr}{ta tb tc:TE}{pos:Pos}
theorem EF(ha:PE X a ta)(hb:PE X b tb){pins:List (Addr×Obj)}{s:Shared}{σ:St}{H:Hp}{R:V->V->Hp->Prop}(I:Inv X pins σ H s)
  (h:ta σ H fun x H1=>tb σ H1 fun y H2=>R x y H2) {Q:Value->Shared->Prop} {f:Value->Value->Sem Value}
  (hf:∀ v u s2 x y H2,Inv X pins σ H2 s2->RelV x v->RelV y u->R x y H2->wpAny (model X.prog X.w) X.A (f v u) Q X.xe s2):
  wpAny (model X.prog X.w) X.A (eval a X.env) (fun v s₁=>wpAny (model X.prog X.w) X.A (eval b X.env) (fun u s₂=>wpAny (model X.prog X.w) X.A (f v u) Q X.xe s₂) X.xe s₁) X.xe s:=by
 refine thn (ha pins s σ H _ I h) fun v s1 ⟨x,H1,I1,r1,q1⟩=>?_
 refine thn (hb pins s1 σ H1 _ I1 q1) fun u s2 ⟨y,H2,I2,r2,q2⟩=>?_
 exact hf v u s2 x y H2 I2 r1 r2 q2
theorem Gb{op:Operator}{r:R2}(ho:OpR X (binaryOp op) r)(ha:PE X a ta)(hb:PE X b tb):PE X (.BinOp a op b pos) (tOp r ta tb):=by
 intro pins s σ H Q I h;exact wpAny_BinOp (EF ha hb I h fun v u s2 x y H2 I2 rx ry q=>ho pins s2 σ H2 x y v u Q I2 rx ry q)
theorem Fe{op:UnaryOp}{r:V->Hp->VK->Prop}(ho:UnR X (unaryOp op) r)(ha:PE X a ta):PE X (.UnaryOp op a pos) (tUn r ta):=by
 intro pins s σ H Q I h;exact UnaryOp_ (thn (ha pins s σ H _ I h) fun v s1 ⟨x,H1,I1,r1,q1⟩=>ho pins s1 σ H1 x v Q I1 r1 q1)
theorem opI{f:Value->Value->Sem Value}{C:Int->Int->Prop}{g:Int->Int->Int}
  (rule:∀(i j:Int) (t u:Tok) (s:Shared) (Q:Value->Shared->Prop) (E:Value->Shared->Prop),C i j->Q (.int (g i j) s.toks) { s with toks:=s.toks+1 }->wpAny (model X.prog X.w) X.A (f (.int i t) (.int j u)) Q E s):
  OpR X f (rI C fun i j=>.int (g i j)):=by
 intro pins s σ H x y v u Q I rx ry h;obtain⟨i,j,rfl,rfl,hc,q⟩:=h;obtain⟨t,rfl⟩:=rx;obtain⟨t',rfl⟩:=ry;exact rule i j t t' s _ _ hc ⟨.int (g i j),H,I.tok _,⟨_,rfl⟩,q⟩
theorem Ft{f:Value->Value->Sem Value}{g:Int->Int->Int}
  (rule:∀(i j:Int) (t u:Tok) (s:Shared) (Q:Value->Shared->Prop) (E:Value->Shared->Prop),Q (.int (g i j) s.toks) { s with toks:=s.toks+1 }->wpAny (model X.prog X.w) X.A (f (.int i t) (.int j u)) Q E s):
  OpR X f (rI0 fun i j=>.int (g i j)):=by
 intro pins s σ H x y v u Q I rx ry h;obtain⟨i,j,rfl,rfl,q⟩:=h;obtain⟨t,rfl⟩:=rx;obtain⟨t',rfl⟩:=ry;exact rule i j t t' s _ _ ⟨.int (g i j),H,I.tok _,⟨_,rfl⟩,q⟩
theorem DQ{f:Value->Value->Sem Value}{g:Int->Int->Bool}
  (rule:∀(i j:Int) (t u:Tok) (s:Shared) (Q:Value->Shared->Prop) (E:Value->Shared->Prop),Q (.bool (g i j)) s->wpAny (model X.prog X.w) X.A (f (.int i t) (.int j u)) Q E s):
  OpR X f (rI0 fun i j=>.bl (g i j)):=by
 intro pins s σ H x y v u Q I rx ry h;obtain⟨i,j,rfl,rfl,q⟩:=h;obtain⟨t,rfl⟩:=rx;obtain⟨t',rfl⟩:=ry;exact rule i j t t' s _ _ ⟨.bl (g i j),H,I,rfl,q⟩
noncomputable def CZ(i j:Int):Prop:=0<j /\ j<1073741824
noncomputable def zu(i j:Int):Prop:=(-(2 ^ 64)<i /\ i<2 ^ 64) \/ (-(2 ^ 64)<j /\ j<2 ^ 64)
theorem zu.ok{i j:Int}(h:zu i j):IntMulOk i j:=by
 rcases h with⟨h1,h2⟩|⟨h1,h2⟩
 . exact .of_left (intBits_le_64 h1 h2)
 . exact .of_right (intBits_le_64 h1 h2)
theorem bP:OpR X (binaryOp .Add) (rI0 fun i j=>.int (i+j)):=Ft fun _ _ _ _ _ _ _ q=>add_int q
theorem pA:OpR X (binaryOp .Sub) (rI0 fun i j=>.int (i - j)):=Ft fun _ _ _ _ _ _ _ q=>sub_int q
theorem n4:OpR X (binaryOp .Mult) (rI zu fun i j=>.int (i*j)):=opI fun _ _ _ _ _ _ _ hc q=>mul_int q hc.ok
theorem aZ:OpR X (binaryOp .FloorDiv) (rI CZ fun i j=>.int (i/j)):=opI fun i j _ _ _ _ _ hc q=>by
 have h1:(0:Int)<j:=hc.1
 have h2:j<1073741824:=hc.2
 exact floordiv_int (by omega) (by rw[Int.fdiv_eq_ediv_of_nonneg i (by omega)];exact q) (.inl (PyProof.noPylong_small (by omega)))
theorem aR:OpR X (binaryOp .Mod) (rI (fun _ j=>0<j) fun i j=>.int (i%j)):=opI fun i j _ _ _ _ _ hc q=>by
 have h1:(0:Int)<j:=hc
 exact mod_int' (by omega) (by rw[Int.fmod_eq_emod_of_nonneg i (by omega)];exact q)
theorem unI{f:Value->Sem Value}{g:Int->Int}
  (rule:∀(i:Int) (t:Tok) (s:Shared) (Q:Value->Shared->Prop) (E:Value->Shared->Prop),Q (.int (g i) s.toks) { s with toks:=s.toks+1 }->wpAny (model X.prog X.w) X.A (f (.int i t)) Q E s):
  UnR X f (rU fun i=>.int (g i)):=by
 intro pins s σ H x v Q I rx h;obtain⟨i,rfl,q⟩:=h;obtain⟨t,rfl⟩:=rx;exact rule i t s _ _ ⟨.int (g i),H,I.tok _,⟨_,rfl⟩,q⟩
theorem hE:UnR X (unaryOp .USub) (rU fun i=>.int (-i)):=unI fun _ _ _ _ _ q=>neg_int q
end
noncomputable def Dj:V->V->Bool
 |.non,.non=>true|.non,.int _=>true|.int _,.non=>true|.non,.bl _=>true|.bl _,.non=>true|.non,.str _=>true|.str _,.non=>true
 |.int _,.int _=>true|.bl _,.bl _=>true|.str _,.str _=>true|.byt _,.byt _=>true
 |.int _,.str _=>true|.str _,.int _=>true|.bl _,.str _=>true|.str _,.bl _=>true
 |_,_=>false
noncomputable def rEq:R2:=fun x y H Q=>Dj x y=true /\ Q (.bl (decide (x=y))) H
noncomputable def rNe:R2:=fun x y H Q=>Dj x y=true /\ Q (.bl (!decide (x=y))) H
theorem wK{i j:Int}:decide (V.int i=V.int j)=(i==j):=by
 rw[Bool.eq_iff_iff];simp
theorem y7{i j:Bool}:decide (V.bl i=V.bl j)=(i==j):=by
 rw[Bool.eq_iff_iff];simp
theorem vI{i j:Str}:decide (V.str i=V.str j)=(i==j):=by
 rw[Bool.eq_iff_iff];simp
theorem wH{i j:Array UInt8}:decide (V.byt i=V.byt j)=(i.toList==j.toList):=by
 rw[Bool.eq_iff_iff];cases i;cases j;simp
section
variable{X:Cx}{a b c:Expr}{ta tb tc:TE}{pos:Pos}
theorem bZ{pins:List (Addr×Obj)}{σ:St}{H:Hp}{s:Shared}{Q:VK}{k k':Bool}(I:Inv X pins σ H s)(q:Q (.bl k) H)(e:k=k'):EP X pins σ Q (.bool k') s:=by
 subst e
 exact⟨.bl k,H,I,rfl,q⟩
theorem cb:OpR X (compareOp .Eq) rEq:=by
 intro pins s σ H x y v u Q I rx ry h;obtain⟨hs,q⟩:=h
 cases x with
 | non=>
   cases rx
   cases y with
   |non=>cases ry;exact PySem.EqNone.eq_none_none (bZ I q (by simp))
   |bl j=>cases ry;exact PySem.EqNone.eq_none_bool (bZ I q (by simp))
   |int j=>obtain⟨t',rfl⟩:=ry;exact PySem.EqNone.eq_none_int (bZ I q (by simp))
   |str j=>obtain⟨t',rfl⟩:=ry;exact PySem.EqNone.eq_none_str (bZ I q (by simp))
   |_=>exact absurd (show false=true from hs) Bool.false_ne_true
 | bl i=>
   cases rx
   cases y with
   |non=>cases ry;exact PySem.EqNone.eq_bool_none (bZ I q (by simp))
   |bl j=>cases ry;exact eq_bool (bZ I q y7)
   |str j=>obtain⟨t',rfl⟩:=ry;exact PySem.EqMixed.eq_bool_str (bZ I q (by simp))
   |_=>exact absurd (show false=true from hs) Bool.false_ne_true
 | int i=>
   obtain⟨t,rfl⟩:=rx
   cases y with
   |non=>cases ry;exact PySem.EqNone.eq_int_none (bZ I q (by simp))
   |int j=>obtain⟨t',rfl⟩:=ry;exact eq_int (bZ I q wK)
   |str j=>obtain⟨t',rfl⟩:=ry;exact PySem.EqMixed.eq_int_str (bZ I q (by simp))
   |_=>exact absurd (show false=true from hs) Bool.false_ne_true
 | str i=>
   obtain⟨t,rfl⟩:=rx
   cases y with
   |non=>cases ry;exact PySem.EqNone.eq_str_none (bZ I q (by simp))
   |bl j=>cases ry;exact PySem.EqMixed.eq_str_bool (bZ I q (by simp))
   |int j=>obtain⟨t',rfl⟩:=ry;exact PySem.EqMixed.eq_str_int (bZ I q (by simp))
   |str j=>obtain⟨t',rfl⟩:=ry;exact eq_str (bZ I q vI)
   |_=>exact absurd (show false=true from hs) Bool.false_ne_true
 | byt i=>
   obtain⟨t,rfl⟩:=rx
   cases y with
   |byt j=>obtain⟨t',rfl⟩:=ry;exact PySem.W.eq_bytes (bZ I q wH)
   |_=>exact absurd (show false=true from hs) Bool.false_ne_true
 |_=>cases y<;>exact absurd (show false=true from hs) Bool.false_ne_true
theorem wm:OpR X (compareOp .NotEq) rNe:=by
 intro pins s σ H x y v u Q I rx ry h;obtain⟨hs,q⟩:=h
 cases x with
 | non=>
   cases rx
   cases y with
   |non=>cases ry;exact PySem.EqNone.ne_none_none (bZ I q (by simp))
   |bl j=>cases ry;exact PySem.EqNone.ne_none_bool (bZ I q (by simp))
   |int j=>obtain⟨t',rfl⟩:=ry;exact PySem.EqNone.ne_none_int (bZ I q (by simp))
   |str j=>obtain⟨t',rfl⟩:=ry;exact PySem.EqNone.ne_none_str (bZ I q (by simp))
   |_=>exact absurd (show false=true from hs) Bool.false_ne_true
 | bl i=>
   cases rx
   cases y with
   |non=>cases ry;exact PySem.EqNone.ne_bool_none (bZ I q (by simp))
   |bl j=>cases ry;exact ne_bool (bZ I q (congrArg not y7))
   |str j=>obtain⟨t',rfl⟩:=ry;exact PySem.EqMixed.ne_bool_str (bZ I q (by simp))
   |_=>exact absurd (show false=true from hs) Bool.false_ne_true
 | int i=>
   obtain⟨t,rfl⟩:=rx
   cases y with
   |non=>cases ry;exact PySem.EqNone.ne_int_none (bZ I q (by simp))
   |int j=>obtain⟨t',rfl⟩:=ry;exact ne_int (bZ I q (congrArg not wK))
   |str j=>obtain⟨t',rfl⟩:=ry;exact PySem.EqMixed.ne_int_str (bZ I q (by simp))
   |_=>exact absurd (show false=true from hs) Bool.false_ne_true
 | str i=>
   obtain⟨t,rfl⟩:=rx
   cases y with
   |non=>cases ry;exact PySem.EqNone.ne_str_none (bZ I q (by simp))
   |bl j=>cases ry;exact PySem.EqMixed.ne_str_bool (bZ I q (by simp))
   |int j=>obtain⟨t',rfl⟩:=ry;exact PySem.EqMixed.ne_str_int (bZ I q (by simp))
   |str j=>obtain⟨t',rfl⟩:=ry;exact ne_str (bZ I q (congrArg not vI))
   |_=>exact absurd (show false=true from hs) Bool.false_ne_true
 | byt i=>
   obtain⟨t,rfl⟩:=rx
   cases y with
   |byt j=>obtain⟨t',rfl⟩:=ry;exact PySem.W.ne_bytes (bZ I q (congrArg not wH))
   |_=>exact absurd (show false=true from hs) Bool.false_ne_true
 |_=>cases y<;>exact absurd (show false=true from hs) Bool.false_ne_true
theorem pd:OpR X (compareOp .Lt) (rI0 fun i j=>.bl (decide (i<j))):=DQ fun _ _ _ _ _ _ _ q=>lt_int q
theorem wC:OpR X (compareOp .Gt) (rI0 fun i j=>.bl (decide (j<i))):=DQ fun _ _ _ _ _ _ _ q=>gt_int q
theorem yn:OpR X (compareOp .GtE) (rI0 fun i j=>.bl (decide (j<=i))):=DQ fun _ _ _ _ _ _ _ q=>ge_int q
theorem fD(b:Expr){op:CmpOp}(h:op≠.In:=by decide)(h2:op≠.NotIn:=by decide):behindInMarks op b=false:=by
 have e1:(op==CmpOp.In)=false:=by cases op<;>first|rfl|exact absurd rfl h
 have e2:(op==CmpOp.NotIn)=false:=by cases op<;>first|rfl|exact absurd rfl h2
 cases b<;>simp[behindInMarks,e1,e2]
theorem Bk{op:CmpOp}{r:R2}(ho:OpR X (compareOp op) r)(ha:PE X a ta)(hb:PE X b tb)(hm:behindInMarks op b=false):PE X (.Compare a [op] [b] pos) (tOp r ta tb):=by
 intro pins s σ H Q I h;exact wpAny_Compare1 (EF ha hb I h fun v u s2 x y H2 I2 rx ry q=>ho pins s2 σ H2 x y v u Q I2 rx ry q) hm
noncomputable def qS(t:TE):TT:=fun σ H Q=>t σ H fun x H'=>∃ k,x=.bl k /\ Q k H'
theorem AN{op:CmpOp}{r:R2}(ho:OpR X (compareOp op) r)(ha:PE X a ta)(hb:PE X b tb)(hm:behindInMarks op b=false):PT X (.Compare a [op] [b] pos) (qS (tOp r ta tb)):=by
 intro pins s σ H Q I h
 refine wpAny_isTrue_Compare1 (thn (ha pins s σ H _ I h) fun v s1 ⟨x,H1,I1,r1,q1⟩=>thn (hb pins s1 σ H1 _ I1 q1) fun u s2 ⟨y,H2,I2,r2,q2⟩=>
  thn (ho pins s2 σ H2 x y v u _ I2 r1 r2 q2) fun c s3 ⟨z,H3,I3,r3,k,e,q3⟩=>?_) hm
 subst e;cases r3;exact wpAny_truthy_bool ⟨H3,I3,q3⟩
noncomputable def vn(r r':R2)(ta tb tc:TE):TE:=fun σ H Q=>ta σ H fun x H1=>tb σ H1 fun y H2=>r x y H2 fun z H3=>∃ k,z=.bl k /\
 (if k=true then tc σ H3 fun w' H4=>r' y w' H4 Q else Q (.bl false) H3)
theorem yh{op op':CmpOp}{r r':R2}(ho:OpR X (compareOp op) r)(ho':OpR X (compareOp op') r')(ha:PE X a ta)(hb:PE X b tb)(hc:PE X c tc)
  (hm:lastMarks [op,op'] [b,c]=false:=by with_unfolding_all rfl):PT X (.Compare a [op,op'] [b,c] pos) (qS (vn r r' ta tb tc)):=by
 intro pins s σ H Q I h
 refine isTrue_chain (thn (ha pins s σ H _ I h) fun v s1 ⟨x,H1,I1,r1,q1⟩=>test_link (thn (hb pins s1 σ H1 _ I1 q1) fun u s2 ⟨y,H2,I2,r2,q2⟩=>
  thn (ho pins s2 σ H2 x y v u _ I2 r1 r2 q2) fun d s3 ⟨z,H3,I3,r3,k,e,q3⟩=>?_)) hm
 subst e;cases r3;refine wpAny_truthy_bool ?_
 cases k with
 | false=>
   obtain⟨k',e',q'⟩:=q3
   cases e'
   exact ite_ff ⟨H3,I3,q'⟩
 | true=>
   refine ite_tt (test_last (thn (hc pins s3 σ H3 _ I3 q3) fun w' s4 ⟨z',H4,I4,r4,q4⟩=>thn (ho' pins s4 σ H4 y z' u w' _ I4 r2 r4 q4) fun d' s5 ⟨z2,H5,I5,r5,k2,e2,q5⟩=>?_));subst e2;cases r5;exact wpAny_truthy_bool ⟨H5,I5,q5⟩
noncomputable def xN(K:PySem.W.Frag)(x:V)(H:Hp)(k:Bool):Prop:=
 match x with
 |.non=>k=false
 |.bl b=>k=b
 |.int i=>k=(i != 0)
 |.str y=>y.length<=sizeLine /\ k=((y.length:Int) != 0)
 |.byt y=>y.size<=sizeLine /\ k=((y.size:Int) != 0)
 |.ref p=>(∃ xs,SqL K H p xs /\ k=!xs.isEmpty) \/ (∃ xs,SqT K H p xs /\ k=!xs.isEmpty) \/ ∃ kvs,H p=some (.dK kvs) /\ k=!kvs.isEmpty
 |_=>False
theorem ve{κ:Type}{kvs:List (κ×V)}{vs:List (κ×Value)}(r:KV kvs vs):(!vs.isEmpty)=!kvs.isEmpty:=by
 cases r<;>rfl
theorem pw{xs:List V}{its:List Value}(r:Vals xs its):(!its.toArray.isEmpty)=!xs.isEmpty:=by
 cases r<;>simp
theorem pJ:(sizeLine:Nat)<2 ^ 63:=by rw[sizeLine_eq];decide
theorem D6:HA X (fun x H Q=>∃ k,xN X.K x H k /\ Q k H):=by
 intro pins s σ H x v Q I rx h;obtain⟨k,e,q⟩:=h;have hl:=pJ
 have hs:sizeLine=16777216:=sizeLine_eq
 cases x with
 | non=>
   cases rx
   have e':k=false:=e
   subst e';exact truthy_none ⟨H,I,q⟩
 | bl b=>
   cases rx
   have e':k=b:=e
   subst e';exact wpAny_truthy_bool ⟨H,I,q⟩
 | int i=>
   obtain⟨t,rfl⟩:=rx
   have e':k=(i != 0):=e
   subst e';exact PySem.P.truthy_int ⟨H,I,q⟩
 | str y=>
   obtain⟨t,rfl⟩:=rx
   obtain⟨hy,e'⟩:y.length<=sizeLine /\ k=((y.length:Int) != 0):=e
   subst e';exact PySem.P.truthy_str (by omega) ⟨H,I.tok _,q⟩
 | byt y=>
   obtain⟨t,rfl⟩:=rx
   obtain⟨hy,e'⟩:y.size<=sizeLine /\ k=((y.size:Int) != 0):=e
   subst e';exact PySem.W.truthy_bytes (by omega) ⟨H,I.tok _,q⟩
 | ref p=>
   cases rx
   have e':(∃ xs,SqL X.K H p xs /\ k=!xs.isEmpty) \/ (∃ xs,SqT X.K H p xs /\ k=!xs.isEmpty) \/ ∃ kvs,H p=some (.dK kvs) /\ k=!kvs.isEmpty:=e
   rcases e' with⟨xs,hx,e'⟩|⟨xs,hx,e'⟩|⟨kvs,hx,e'⟩
   . subst e';obtain⟨its,r,pl,hz⟩:=I.list hx;have hlen:=r.length;exact wpAny_truthy_list pl.isList (by simp only[List.size_toArray];omega) ⟨H,I.tok _,by rw[pw r];exact q⟩
   . subst e';obtain⟨its,r,pl,hz⟩:=I.tuple hx;have hlen:=r.length;exact truthy_tuple pl (by simp only[List.size_toArray];omega) ⟨H,I.tok _,by rw[pw r];exact q⟩
   . subst e'
     obtain⟨hz,hS,vs,r,m⟩:kvs.length<=sizeLine /\ (p==sysModules)=false /\ ∃ vs,KV kvs vs /\ s.heap.DictOf (cL X.prog X.w) p vs:=I.hok p _ hx
     have hlen:kvs.length=vs.length:=Paired.length r
     exact wpAny_truthy_dict hS m (by omega) ⟨H,I.tok _,by rw[ve r];exact q⟩
 |_=>exact(show False from e).elim
theorem yk(ha:PE X a ta)(he:∀ whole,isTrue a X.env whole=(do let v <- whole;standAt a.pos;holding [v] (truthy v))):
  PT X a (fun σ H Q=>ta σ H fun x H'=>∃ k,xN X.K x H' k /\ Q k H'):=by
 intro pins s σ H Q I h;exact isTrue_plain (thn (ha pins s σ H _ I h) fun v s1 ⟨x,H1,I1,r1,q1⟩=>D6 pins s1 σ H1 x v Q I1 r1 q1) (he _)
theorem vals1{x:V}{us:List Value}(r:Vals [x] us):∃ u,us=[u] /\ RelV x u:=by
 cases r with
 |cons r1 r2=>cases r2;exact⟨_,rfl,r1⟩
theorem qO:iC X (.type "int") (fun xs H Q=>(∃ i,xs=[.int i] /\ Q (.int i) H) \/ ∃ k,xs=[.bl k] /\ Q (.int (if k then 1 else 0)) H):=by
 intro pins s σ H xs us Q I r h
 rcases h with⟨i,rfl,q⟩|⟨k,rfl,q⟩
 . obtain⟨u,rfl,t,rfl⟩:=vals1 r;exact call_int_int ⟨.int i,H,I,⟨_,rfl⟩,q⟩
 . obtain⟨u,rfl,r1⟩:=vals1 r;cases r1;exact call_int_bool ⟨.int (if k then 1 else 0),H,I.tok _,⟨_,rfl⟩,q⟩
theorem mV:iC X (.type "str") (fun xs H Q=>∃ i,xs=[.int i] /\ i.natAbs.log2<1920 /\ Q (.str (toString i)) H):=by
 intro pins s σ H xs us Q I r h;obtain⟨i,rfl,hz,q⟩:=h;obtain⟨u,rfl,t,rfl⟩:=vals1 r;exact PySem.P.str_of_int hz ⟨.str _,H,I.tok _,⟨_,rfl⟩,q⟩
theorem y4:iC X (.builtin "ord") (fun xs H Q=>∃ x,xs=[.str x] /\ x.length=1 /\ Q (.int (x.cps.getD 0 0:Nat)) H):=by
 intro pins s σ H xs us Q I r h;obtain⟨x,rfl,hz,q⟩:=h;obtain⟨u,rfl,t,rfl⟩:=vals1 r;exact ord_of_one hz ⟨.int _,H,I.tok _,⟨_,rfl⟩,q⟩
end
theorem aX.some_of{v:V}{o:Option Value}(r:aX (some v) o):∃ u,o=some u /\ RelV v u:=by
 cases o with
 |none=>exact(show False from r).elim
 |some u=>exact⟨u,rfl,r⟩
structure hJ(k:Nat)(A:Around):Prop where
 hd:A.handled=none
 dp:A.depth+3*k+5<recursionLimit
 un:A.units+16*k+200<cLine
theorem hJ.mono{j k:Nat}{A:Around}(r:hJ k A)(h:j<=k):hJ j A:=⟨r.hd,by have:=r.dp;omega,by have:=r.un;omega⟩
theorem hJ.deeper{k:Nat}{A:Around}(r:hJ (k+1) A)(env:Env):hJ k (A.deeper env):=
 ⟨r.hd,by have:=r.dp;show A.depth+1+3*k+5<_;omega,by have:=r.un;show A.units+3+16*k+200<_;omega⟩
theorem hJ.depth{k:Nat}{A:Around}(r:hJ k A):A.depth<recursionLimit:=by have:=r.dp;omega
theorem hJ.units{k:Nat}{A:Around}(r:hJ k A):A.units+64<cLine:=by have:=r.un;omega
noncomputable def j1:TA:=fun _ H Q=>Q [] H
noncomputable def fJ(ta:TE)(tr:TA):TA:=fun σ H Q=>ta σ H fun x H1=>tr σ H1 fun xs H2=>Q (x ::xs) H2
section
variable{X:Cx}{e:Expr}{es:List Expr}{te:TE}{t:TA}{pos:Pos}
theorem EJ:PA X [] j1:=fun _ _ _ _ H Q I h=>Calls.spliced_nil ⟨[],H,I,.nil,h⟩
theorem Bx(ha:PE X e te)(hr:PA X es t)(hs:starEach (e ::es) X.env=(false,eval e X.env) ::starEach es X.env:=by rfl):PA X (e ::es) (fJ te t):=by
 intro pos pins s σ H Q I h;rw[hs];show wpAny _ _ (spliced ((false,eval e X.env) ::backTo pos (starEach es X.env))) _ _ s;refine Calls.spliced_cons (thn (ha pins s σ H _ I h) fun u s1 ⟨x,H1,I1,r1,q1⟩=>?_)
 exact thn (hr pos pins s1 σ H1 _ I1 q1) fun us s2 ⟨xs,H2,I2,r2,q2⟩=>⟨x ::xs,H2,I2,.cons r1 r2,q2⟩
noncomputable def Di(t:TA):TE:=fun σ H Q=>t σ H fun xs H1=>xs.length<=sizeLine /\ ∀ p,H1 p=none->Q (.ref p) (upd H1 p (.tup xs))
noncomputable def Bn(t:TA):TE:=fun σ H Q=>t σ H fun xs H1=>xs.length<=sizeLine /\ ∀ p,H1 p=none->Q (.ref p) (upd H1 p (.lst xs))
theorem ER{x1}(h:PA X es t):PE X (.Tuple es x1 pos) (Di t):=by
 intro pins s σ H Q I hq;refine wpAny_Tuple_spliced (thn (h pos pins s σ H _ I hq) fun us s1 ⟨xs,H1,I1,r,z,q⟩=>⟨by rw[<- r.length];exact z,?_⟩)
 have hf:H1 s1.heap.objs.size=none:=I1.hok.fresh (Nat.le_refl _)
 refine⟨.ref s1.heap.objs.size,upd H1 s1.heap.objs.size (.tup xs),I1.laid (t':=s1.toks) (fun b u e=>Heap.get?_push_of_some _ e) (Nat.le_refl _) ?_,rfl,q _ hf⟩
 exact⟨z,us,r,⟨_,Heap.get?_push_size _ rfl,rfl,_,rfl⟩⟩
theorem DA(h:PA X es t):PE X (.List es pos) (Bn t):=by
 intro pins s σ H Q I hq;refine wpAny_List_spliced (thn (h pos pins s σ H _ I hq) fun us s1 ⟨xs,H1,I1,r,z,q⟩=>⟨by rw[<- r.length];exact z,?_⟩)
 have hf:H1 s1.heap.objs.size=none:=I1.hok.fresh (Nat.le_refl _)
 refine⟨.ref s1.heap.objs.size,upd H1 s1.heap.objs.size (.lst xs),I1.laid (t':=s1.toks) (fun b u e=>Heap.get?_push_of_some _ e) (Nat.le_refl _) ?_,rfl,q _ hf⟩
 exact⟨z,us,0,r,Heap.get?_push_size _ rfl⟩
end
abbrev Sp:=List V->Hp->VK->XK->Prop
abbrev CXT:=List Env->Hp->Shared->XK->Value->Shared->Prop
structure A2(P:Program)(w:World)(K:PySem.W.Frag)(mg:Str->Option Value)(base:Heap)(A:Around)(outer:List Env)(s:Shared)(H:Hp):Prop where
 frames:A.frames=some outer
 mod:Mod K mg base
 bs:∀ b o,base.get? b=some o->s.heap.get? b=some o /\ H b=none
 bsz:base.objs.size<=s.heap.objs.size
 rM:s.heap.FunFrames base outer
 frf:∀ b∈frs outer,H b=none
 hok:HOk P w H s.heap
 bare:AllBare s.gens
noncomputable def CE(outer:List Env)(P:Program)(w:World)(H:Hp)(s:Shared)(Q:VK)(u:Value)(s':Shared):Prop:=
 ∃ v H',s'.os=s.os /\ AllBare s'.gens /\ Un (frs outer) [] H H' s.heap s'.heap /\ HOk P w H' s'.heap /\ RelV v u /\ Q v H'
noncomputable def CR(CX:CXT)(outer:List Env)(P:Program)(w:World)(H:Hp)(s:Shared)(Q:VK)(E:XK)(r:Result)(s':Shared):Prop:=
 match r with
 |.ok (.ret u)=>CE outer P w H s Q u s'
 |.ok _=>False
 |.error e=>CX outer H s E e s'
structure cT(P:Program)(w:World)(K:PySem.W.Frag)(mg:Str->Option Value)(base:Heap)(CX:CXT)(k:Nat)(f:Addr)(fd:FuncData)(ps:List Str)(sp:Sp):Prop where
 len:∀ vs H Q E,sp vs H Q E->vs.length=ps.length
 run:∀(A:Around) (outer:List Env) (s:Shared) (H:Hp) (args:Args) (us:List Value) (vs:List V) (Q:VK) (E:XK),hJ k A->A2 P w K mg base A outer s H->BindsTo s fd args (ps.zip us)->Vals vs us->sp vs H Q E ->
  codeAny (model P w) A (.call (.ref f) args) (CR CX outer P w H s Q E) s
theorem cT.mono{P:Program}{w:World}{K:PySem.W.Frag}{mg:Str->Option Value}{base:Heap}{CX:CXT}{j k:Nat}{f:Addr}{fd:FuncData}{ps:List Str}{sp:Sp}(F:cT P w K mg base CX j f fd ps sp)(h:j<=k):
  cT P w K mg base CX k f fd ps sp:=⟨F.len,fun A outer s H args us vs Q E hr=>F.run A outer s H args us vs Q E (hr.mono h)⟩
theorem cT.imp{P:Program}{w:World}{K:PySem.W.Frag}{mg:Str->Option Value}{base:Heap}{CX:CXT}{k:Nat}{f:Addr}{fd:FuncData}{ps:List Str}{sp sp':Sp}(F:cT P w K mg base CX k f fd ps sp)
  (h:∀ vs H Q E,sp' vs H Q E->sp vs H Q E):cT P w K mg base CX k f fd ps sp':=
 ⟨fun vs H Q E q=>F.len vs H Q E (h _ _ _ _ q),fun A outer s H args us vs Q E hr he hb hv hs=>F.run A outer s H args us vs Q E hr he hb hv (h _ _ _ _ hs)⟩
section
variable{X:Cx}{pins:List (Addr×Obj)}{σ:St}{H:Hp}{s s':Shared}
theorem Inv.GQ(I:Inv X pins σ H s):A2 X.prog X.w X.K X.mg X.base X.A X.stack s H:=
 ⟨I.ok.frames,I.ok.mod,I.bs,Nat.le_trans I.ok.bsz I.sz,I.stack,I.sq,I.hok,I.bare⟩
theorem Inv.after{Q:VK}{u:Value}(I:Inv X pins σ H s)(h:CE X.stack X.prog X.w H s Q u s'):EP X pins σ Q u s':=by
 obtain⟨v,H',os,bare,un,hok,r,q⟩:=h;obtain⟨hh,g,d,t,os'⟩:=s'
 obtain rfl:os'=s.os:=os
 exact⟨v,H',I.call (h':=hh) (g':=g) (d':=d) (t':=t) (ch:=[]) un hok bare (fun b z=>absurd z (by simp)),r,q⟩
end
noncomputable def Binds(K:PySem.W.Frag)(fd:FuncData)(ps:List Str)(ds:List Value):Prop:=
 ∀(s:Shared) (us:List Value),K.In s.heap->(us++ds).length=ps.length->BindsTo s fd ⟨us,[]⟩ (ps.zip (us++ds))
theorem Binds.all{K:PySem.W.Frag}{fd:FuncData}{ps:List Str}(h:∀ us:List Value,us.length=ps.length->bindArgs fd ⟨us,[]⟩=pure (ps.zip us)):Binds K fd ps []:=fun s us _ hl=>by
 rw[List.append_nil]at hl ⊢
 exact .of_eq (h us hl)
structure bx(N P:List Str)(sc:Scope):Prop where
 kind:sc.kind=.function
 co:sc.isCoroutine=false
 gen:sc.isGenerator=false
 nd:N.Nodup
 pre:N.take P.length=P
 par:∀ x∈P,sc.names.lookup x=some .local \/ sc.names.lookup x=some .cell
 nofree:∀ y∈sc.names,y.2≠.free
theorem qw{kindOf:Str->Option NameKind}{x:Str}:∀{binds:List (Str×Value)} {m:Str->Option Value},(∀ v,(x,v)∉binds)->bindL kindOf binds m x=m x
 |[],_,_=>rfl
 | (n,v) ::r,m,h=>by
   unfold bindL;rw[qw fun w hw=>h w (List.mem_cons_of_mem _ hw)];split
   . have:x≠n:=by rintro rfl;exact h v List.mem_cons_self
     simp[this]
   . rfl
theorem q9{kindOf:Str->Option NameKind}{x:Str}:∀{binds:List (Str×Value)} {m:Str->Option Value},(∀ v,(x,v)∉binds)->bindC kindOf binds m x=m x
 |[],_,_=>rfl
 | (n,v) ::r,m,h=>by
   unfold bindC;rw[q9 fun w hw=>h w (List.mem_cons_of_mem _ hw)];split
   . rfl
   . have:x≠n:=by rintro rfl;exact h v List.mem_cons_self
     simp[this]
theorem qZ{kindOf:Str->Option NameKind}{x:Str}{v:Value}:∀{P:List Str} {vs:List Value} {i:Nat} {m:Str->Option Value},P.Nodup->P[i]?=some x->vs[i]?=some v->kindOf x=some .local ->
  bindL kindOf (P.zip vs) m x=some v
 |[],_,_,_,_,h,_,_=>by simp at h
 |_ ::_,[],_,_,_,_,h,_=>by simp at h
 | p ::P,w ::vs,0,m,nd,h1,h2,hk=>by
   simp at h1 h2;subst h1;subst h2;show bindL kindOf ((p,w) ::P.zip vs) m p=_;unfold bindL;rw[qw fun v hv=>(List.nodup_cons.mp nd).1 (List.of_mem_zip hv).1,if_pos hk];simp
 | p ::P,w ::vs,i+1,m,nd,h1,h2,hk=>by
   show bindL kindOf ((p,w) ::P.zip vs) m x=_;unfold bindL;exact qZ (i:=i) (List.nodup_cons.mp nd).2 (by simpa using h1) (by simpa using h2) hk
theorem rf{kindOf:Str->Option NameKind}{x:Str}{v:Value}:∀{P:List Str} {vs:List Value} {i:Nat} {m:Str->Option Value},P.Nodup->P[i]?=some x->vs[i]?=some v->kindOf x≠some .local ->
  bindC kindOf (P.zip vs) m x=some v
 |[],_,_,_,_,h,_,_=>by simp at h
 |_ ::_,[],_,_,_,_,h,_=>by simp at h
 | p ::P,w ::vs,0,m,nd,h1,h2,hk=>by
   simp at h1 h2;subst h1;subst h2;show bindC kindOf ((p,w) ::P.zip vs) m p=_;unfold bindC;rw[q9 fun v hv=>(List.nodup_cons.mp nd).1 (List.of_mem_zip hv).1,if_neg hk];simp
 | p ::P,w ::vs,i+1,m,nd,h1,h2,hk=>by
   show bindC kindOf ((p,w) ::P.zip vs) m x=_;unfold bindC;exact rf (i:=i) (List.nodup_cons.mp nd).2 (by simpa using h1) (by simpa using h2) hk
noncomputable def start(N:List Str)(vs:List V):St:=vs.map some++List.replicate (N.length - vs.length) none
noncomputable def nF(CX:CXT)(P:Program)(w:World)(K:PySem.W.Frag)(mg:Str->Option Value)(base:Heap)(N:List Str)(qual:Str)(scope:Scope)(f:Addr)(cd:Value)(A:Around)(outer:List Env)(s:Shared)(H:Hp)(E:XK):Cx where
 prog:=P
 w:=w
 K:=K
 mg:=mg
 base:=base
 A:=A.deeper (envOfC qual scope s.heap.objs.size f cd)
 N:=N
 s₀:=s
 H₀:=H
 env:=envOfC qual scope s.heap.objs.size f cd
 outer:=outer
 stack:=envOfC qual scope s.heap.objs.size f cd ::outer
 ex:=[]
 calm:=true
 fn:=fun _=>true
 pn:=[]
 xe:=fun e s'=>wpAny (model P w) (A.deeper (envOfC qual scope s.heap.objs.size f cd)) (leaving (envOfC qual scope s.heap.objs.size f cd) e) (fun _ s''=>CX outer H s E e s'') (fun e' s''=>CX outer H s E e' s'') s'
theorem tF{sc:Scope}{n:Nat}{x:Str}(h:sc.names.lookup x=some .cell):∃ c,(cellsFrom n sc.names []).lookup x=some c:=by
 have q:=PySem.W.cellsFrom_some sc.names n [] (.inl h);exact Option.isSome_iff_exists.mp q
theorem xf{CX:CXT}{P:Program}{w:World}{K:PySem.W.Frag}{mg:Str->Option Value}{base:Heap}{N ps:List Str}{qual:Str}{scope:Scope}{f:Addr}{cd:Value}{A:Around}{outer:List Env}{s s1:Shared}{H:Hp}{E:XK}{us:List Value}{vs:List V}
  (S:bx N ps scope) (hd:A.handled=none) (e0:A2 P w K mg base A outer s H) (hl:vs.length=ps.length) (r:Vals vs us)
  (x:InCallC s s.heap.objs.size (bindL (envOfC qual scope s.heap.objs.size f cd).kindOf (ps.zip us) fun _=>none) (cellsFrom (s.heap.objs.size+1) scope.names []) (bindC (envOfC qual scope s.heap.objs.size f cd).kindOf (ps.zip us) fun _=>none) s1):
  Inv (nF CX P w K mg base N qual scope f cd A outer s H E) [] (start N vs) H s1:=by
 have hpl:ps.length<=N.length:=by have:=congrArg List.length S.pre;rw[List.length_take]at this;omega
 obtain⟨h1,tk,rfl,hk⟩:=x.done
 have noA:∀ b:Addr,b∉(nF CX P w K mg base N qual scope f cd A outer s H E).ex:=fun b z=>absurd (show b∈([]:List Addr) from z) (by simp)
 refine⟨⟨e0.mod,S.kind,rfl,rfl,Nat.le_refl _,fun y z c h1 h2=>?_,fun y hy=>?_,fun y c _ h=>?_,fun _=>hd,Around.frames_deeper e0.frames,.inr ⟨rfl,rfl⟩,fun b z=>absurd z (noA b),e0.bs,e0.bsz,fun b _ _=>noA b,fun b z=>absurd z (noA b),e0.rM,e0.frf⟩,
  rfl,e0.bare,Un.kept hk,⟨_,x.toInCall.ns,fun i y v h1 h2 h3=>?_⟩,fun y c h=>⟨_,x.cell y c h⟩,e0.hok.fresh (Nat.le_refl _),fun y c h=>?_,fun p hp=>absurd (show p∈([]:List (Addr×Obj)) from hp) (by simp),e0.hok.kept hk,?_⟩
 . exact name_of_addr x.apart (PySem.mem_of_lookup h1) (PySem.mem_of_lookup h2)
 . have hy:scope.names.lookup y=some .cell \/ scope.names.lookup y=some .free:=hy
   rcases hy with hy|hy
   . exact tF hy
   . exact absurd rfl (S.nofree _ (PySem.mem_of_lookup hy))
 . exact Nat.le_of_lt (x.above y c (PySem.mem_of_lookup h))
 . have hi:i < vs.length:=by
    unfold start at h2
    by_cases hi:i<vs.length
    . exact hi
    . rw[List.getElem?_append_right (by simpa using hi)]at h2;rw[List.getElem?_replicate]at h2
      split at h2<;>cases h2
   have ha:vs[i]?=some v:=by
    unfold start at h2;rw[List.getElem?_append_left (by simpa using hi),List.getElem?_map]at h2
    cases e:vs[i]? with
    |none=>rw[e]at h2;cases h2
    |some a=>rw[e]at h2;cases h2;rfl
   obtain⟨u,hu,rv⟩:=r.get ha
   have hp:ps[i]?=some y:=by
    rw[<- S.pre,List.getElem?_take_of_lt (by omega)];exact h1
   have ndP:ps.Nodup:=by rw[<- S.pre];exact S.nd.sublist (List.take_sublist _ _)
   refine⟨u,rv,?_⟩
   rcases S.par y (List.mem_of_getElem? hp)with k|k
   . exact .inl ⟨k,qZ ndP hp hu k⟩
   . obtain⟨c,e⟩:=tF (n:=s.heap.objs.size+1) k;refine .inr ⟨.inl k,c,e,?_⟩;have q:=x.cell y c e;rw[rf ndP hp hu (by show scope.names.lookup y≠_;rw[k];decide)]at q;exact q
 . exact e0.hok.fresh (Nat.le_of_lt (x.above y c (PySem.mem_of_lookup h)))
 . unfold start;show _=N.length;rw[List.length_append,List.length_map,List.length_replicate];omega
theorem F7{CX:CXT}{P:Program}{w:World}{K:PySem.W.Frag}{mg:Str->Option Value}{base:Heap}{k:Nat}{f:Addr}{name qual:Str}{params:Arguments}{body:List Stmt}{scope:Scope}{dV kV doc pm cdv ct oc:Value}{an od:Option Addr}
  {osl:Array (Option Value)} {N ps:List Str} {sp:Sp} (lk:K.lookup f=some ⟨oc,od,.func (PySem.W.fnOf name qual params body scope dV kV doc pm an cdv ct),osl⟩) (hcd:PySem.W.codeIn K cdv qual=true) (S:bx N ps scope)
  (len:∀ vs H Q E,sp vs H Q E->vs.length=ps.length)
  (hbody:∀(A:Around) (outer:List Env) (s:Shared) (H:Hp) (vs:List V) (Q:VK) (E:XK),hJ k (A.deeper (envOfC qual scope s.heap.objs.size f cdv))->sp vs H Q E ->
    ∃ t,PSs (nF CX P w K mg base N qual scope f cdv A outer s H E) body t /\ t { nx:=fun _ H'=>Q .non H',rt:=Q } (start N vs) H):
  cT P w K mg base CX (k+1) f (PySem.W.fnOf name qual params body scope dV kV doc pm an cdv ct) ps sp:=by
 refine⟨len,fun A outer s H args us vs Q E hr e0 hb r hsp=>?_⟩
 have hl:=len _ _ _ _ hsp
 have KX:K.In s.heap:=e0.mod.kin.keeps fun b o e=>(e0.bs b o e).1
 have lim:s.heap.NoLimit:=e0.mod.nolimit.keeps fun b o e=>(e0.bs b o e).1
 have hkind:∀ y∈ps.zip us,scope.names.lookup y.1=some .local \/ (scope.names.lookup y.1=some .cell /\ ((cellsFrom (s.heap.objs.size+1) scope.names []).lookup y.1).isSome=true):=fun ⟨n,v⟩ hy=>by
  rcases S.par n (List.of_mem_zip hy).1 with q|q
  . exact .inl q
  . exact .inr ⟨q,PySem.W.cellsFrom_some _ _ _ (.inl q)⟩
 refine codeAny_call_function hr.depth (KX _ _ lk) rfl S.co S.gen rfl (PySem.W.codeRec_of KX hcd) (hb _ _ _ _ ?_)
 refine wpAny_newFunctionEnv_cells S.kind hkind fun env he s1 x=>?_
 subst he
 refine⟨lim.keeps x.toInCall.keep,codeAny_func ?_⟩
 obtain⟨t,ht,hq⟩:=hbody A outer s H vs Q E (hr.deeper _) hsp
 have I:Inv (nF CX P w K mg base N qual scope f cdv A outer s H E) [] (start N vs) H s1:=xf S hr.hd e0 hl r x
 refine wpAny_mono (ht [] s1 (start N vs) H _ I hq) (fun fl s' hs=>?_) fun e s' hs=>hs
 have fin:∀{σ':St} {H':Hp} {v:V} {u:Value},Inv (nF CX P w K mg base N qual scope f cdv A outer s H E) [] σ' H' s'->RelV v u->Q v H'->CE outer P w H s Q u s':=
  fun {σ' H' v u} J rv q=>⟨v,H',J.os,J.bare,J.base,J.hok,rv,q⟩
 cases fl with
 | ret u=>
   obtain⟨v,σ',H',J,rv,q⟩:=hs;exact fin J rv q
 | next=>
   obtain⟨σ',H',J,q⟩:=hs;exact fin (v:=V.non) (u:=Value.none) J rfl q
 | brk=>
   obtain⟨_,_,_,q⟩:=hs;exact False.elim q
 | cont=>
   obtain⟨_,_,_,q⟩:=hs;exact False.elim q
section
variable{X:Cx}{x:Str}{p pos:Pos}{e:Expr}{es:List Expr}{t:TA}{id T:String}{r:List V->Hp->VK->Prop}
noncomputable def tCB(r:List V->Hp->VK->Prop)(t:TA):TE:=fun σ H Q=>t σ H fun vs H1=>r vs H1 Q
theorem zc(hc:iC X (.builtin id) r)(hg:Gl X x)(hm:X.mg x=none)(hv:bootBuiltins x=some (.builtin id))(ha:PA X (e ::es) t)(hn:x ≠ "__name__":=by decide)(hdb:(x==("__debug__":Str))=false:=by decide)
  (he:starEach (e ::es) X.env=(false,eval e X.env) ::starEach es X.env:=by rfl) (hpl:(backTo pos (starEach es X.env)).any (·.1)=false:=by rfl):PE X (.Call (.Name x p) (e ::es) [] pos) (tCB r t):=by
 intro pins s σ H Q I h;refine wpAny_Call_Name_kw (qf I hg hm hv ?_ hn hdb);exact PyProof.Rows.callWith_builtin1 (thn (ha pos pins s σ H _ I h) fun us s1 ⟨vs,H1,I1,r1,q1⟩=>hc pins s1 σ H1 vs us Q I1 r1 q1) he hpl
theorem xl(hc:iC X (.type T) r)(hg:Gl X x)(hm:X.mg x=none)(hv:bootBuiltins x=some (.type T))(ha:PA X (e ::es) t)(hn:x ≠ "__name__":=by decide)(hdb:(x==("__debug__":Str))=false:=by decide)
  (he:starEach (e ::es) X.env=(false,eval e X.env) ::starEach es X.env:=by rfl) (hpl:(backTo pos (starEach es X.env)).any (·.1)=false:=by rfl):PE X (.Call (.Name x p) (e ::es) [] pos) (tCB r t):=by
 intro pins s σ H Q I h;refine wpAny_Call_Name_kw (qf I hg hm hv ?_ hn hdb);exact PyProof.Rows.callWith_type1 (thn (ha pos pins s σ H _ I h) fun us s1 ⟨vs,H1,I1,r1,q1⟩=>hc pins s1 σ H1 vs us Q I1 r1 q1) he hpl
end
end L2
namespace HT
open PySem PyProof.Rows
section
open PySem.SeqAt
open PySem.AutoSeq1 (wpAny_loadPart')
open PySem.MeetsSeq PySem.MeetsSeq2 PySem.MeetsSeq3
end
section
variable{prog:Program}{w:World}{A:Around}{E:Value->Shared->Prop}{s:Shared}
noncomputable def sIx(n d:Nat):Option Int->Nat
 |none=>d
 |some v=>if v<0 then(v+(n:Int)).toNat else min v.toNat n
end
end HT
namespace L2
open PySem PySem.Spec PyProof.Rows
abbrev TO:=St->Hp->(Option Int->Hp->Prop)->Prop
noncomputable def PO(X:Cx)(e:Option Expr)(t:TO):Prop:=
 ∀(pins:List (Addr×Obj)) (s:Shared) (σ:St) (H:Hp) (Q:Option Int->Hp->Prop),Inv X pins σ H s->t σ H Q ->
   wpAny (model X.prog X.w) X.A (evalPart e X.env) (fun u s'=>∃ o H',Inv X pins σ H' s' /\ IsPart u o /\ Q o H') X.xe s
noncomputable def rN:TO:=fun _ H Q=>Q none H
noncomputable def zY(t:TE):TO:=fun σ H Q=>t σ H fun x H1=>∃ i,x=.int i /\ Q (some i) H1
section
variable{X:Cx}{e:Expr}{te:TE}{lo hi:Option Expr}{tl th:TO}{pos p2:Pos}
theorem Az:PO X none rN:=by
 intro pins s σ H Q I h;rw[evalPart_none];exact wpAny_pure ⟨none,H,I,.none,h⟩
theorem BZ(h:PE X e te):PO X (some e) (zY te):=by
 intro pins s σ H Q I hw;rw[evalPart_some]
 refine thn (h pins s σ H _ I hw) fun u s1 ⟨x,H1,I1,r1,q1⟩=>?_
 obtain⟨i,rfl,q⟩:=q1;obtain⟨t,rfl⟩:=r1
 exact⟨some i,H1,I1,.int i t,q⟩
noncomputable def SlR(X:Cx)(r:V->Option Int->Option Int->Hp->VK->Prop):Prop:=
 ∀(pins:List (Addr×Obj)) (s:Shared) (σ:St) (H:Hp) (x:V) (v vl vu:Value) (lo hi:Option Int) (sl:Addr) (Q:VK),Inv X pins σ H s->RelV x v->s.heap.IsSliceOf sl vl vu .none->IsPart vl lo->IsPart vu hi->r x lo hi H Q ->
   ∃ T id,typeLookup (.type T) "__getitem__" = pure (some (.builtin id)) /\ s.TypeIs v T /\ wpAny (model X.prog X.w) X.A (getItem v (.ref sl)) (EP X pins σ Q) X.xe s
noncomputable def tSl(r:V->Option Int->Option Int->Hp->VK->Prop)(te:TE)(tl th:TO):TE:=fun σ H Q=>te σ H fun x H1=>tl σ H1 fun l H2=>th σ H2 fun u H3=>r x l u H3 Q
theorem zK{r:V->Option Int->Option Int->Hp->VK->Prop}(hr:SlR X r)(he:PE X e te)(hl:PO X lo tl)(hu:PO X hi th):PE X (.Subscript e (.Slice lo hi none p2) pos) (tSl r te tl th):=by
 intro pins s σ H Q I h;refine Subscript_ (thn (he pins s σ H _ I h) fun v s1 ⟨x,H1,I1,r1,q1⟩=>?_);refine wpAny_Slice (thn (hl pins s1 σ H1 _ I1 q1) fun vl s2 ⟨l,H2,I2,pl,q2⟩=>thn (hu pins s2 σ H2 _ I2 q2) fun vu s3 ⟨u,H3,I3,pu,q3⟩=>?_);rw[evalPart_none];refine wpAny_pure ?_
 have I4:Inv X pins σ H3 { s3 with heap:=s3.heap.push { cls:=.type "slice",data:=.fields #[vl,vu,.none] } }:=I3.kept (t':=s3.toks) fun b ob q=>Heap.get?_push_of_some _ q
 obtain⟨T,id,hT,ht,hg⟩:=hr pins { s3 with heap:=s3.heap.push { cls:=.type "slice",data:=.fields #[vl,vu,.none] } } σ H3 x v vl vu l u s3.heap.objs.size Q I4 r1 (Heap.IsSliceOf.new ..) pl pu q3;show wpAny (model X.prog X.w) X.A (subscriptTail e (.Slice lo hi none p2) v (.ref s3.heap.objs.size)) (EP X pins σ Q) X.xe { s3 with heap:=s3.heap.push { cls:=.type "slice",data:=.fields #[vl,vu,.none] } };exact tail_any (ops:=[.ref s3.heap.objs.size,v]) ht hT hg (by with_unfolding_all rfl)
noncomputable def xv(xs:List V)(lo hi:Option Int):List V:=(xs.drop (HT.sIx xs.length 0 lo)).take (HT.sIx xs.length xs.length hi - HT.sIx xs.length 0 lo)
theorem uz(xs:List V)(lo hi:Option Int):(xv xs lo hi).length<=xs.length:=by
 unfold xv;rw[List.length_take,List.length_drop];omega
end
noncomputable def ixN(n:Nat)(i:Int):Option Nat:=if 0<=i then(if i<n then some i.toNat else none)else if -(n:Int)<=i then some (i+n).toNat else none
noncomputable def atI{α:Type}(xs:List α)(i:Int):Option α:=(ixN xs.length i).bind fun j=>xs[j]?
theorem vJ{n:Nat}{i:Int}{j:Nat}(h:ixN n i=some j):seqIndex? i n=some j /\ j<n /\ -(n:Int)<=i /\ i<n:=by
 unfold ixN at h
 by_cases h0:0<=i
 . rw[if_pos h0]at h
   by_cases h1:i<n
   . rw[if_pos h1]at h
     have e:i.toNat=j:=Option.some.inj h
     exact⟨by rw[seqIndex_of h0 h1,e],by omega,by omega,h1⟩
   . rw[if_neg h1]at h;cases h
 . rw[if_neg h0]at h
   by_cases h1:-(n:Int)<=i
   . rw[if_pos h1]at h
     have e:(i+n).toNat=j:=Option.some.inj h
     exact⟨by rw[seqIndex_neg (by omega) h1,e],by omega,h1,by omega⟩
   . rw[if_neg h1]at h;cases h
theorem v3{α:Type}{xs:List α}{i:Int}{v:α}(h:atI xs i=some v):∃ j,seqIndex? i xs.length=some j /\ xs[j]?=some v /\ j<xs.length /\ -(xs.length:Int)<=i /\ i<xs.length:=by
 unfold atI at h
 cases e:ixN xs.length i with
 |none=>rw[e]at h;cases h
 | some j=>
   rw[e]at h;obtain⟨h1,h2,h3,h4⟩:=vJ e
   exact⟨j,h1,h,h2,h3,h4⟩
noncomputable def rH(b:Expr):Prop:=∀ o i,subscripted b false o i=operate [o,i] (getItem o i)
noncomputable def IxR(X:Cx)(r:R2):Prop:=
 ∀(value slice:Expr) (pins:List (Addr×Obj)) (s:Shared) (σ:St) (H:Hp) (x y:V) (v u:Value) (Q:VK),Inv X pins σ H s->RelV x v->RelV y u->r x y H Q ->
   subscripted slice false v u=operate [v,u] (getItem v u)->wpAny (model X.prog X.w) X.A (subscriptTail value slice v u) (EP X pins σ Q) X.xe s
noncomputable def MtR(X:Cx)(id:String)(r:V->List V->Hp->VK->Prop):Prop:=
 ∀(pins:List (Addr×Obj)) (s:Shared) (σ:St) (H:Hp) (x:V) (xs:List V) (v:Value) (us:List Value) (Q:VK),Inv X pins σ H s->RelV x v->Vals xs us->r x xs H Q ->
   wpAny (model X.prog X.w) X.A (call (.builtin id) (v ::us)) (EP X pins σ Q) X.xe s
section
variable{X:Cx}{a b:Expr}{ta tb:TE}{pos:Pos}
theorem Fu{r:R2}(hr:IxR X r)(ha:PE X a ta)(hb:PE X b tb)(hs:rH b):PE X (.Subscript a b pos) (tOp r ta tb):=by
 intro pins s σ H Q I h;exact Subscript_ (EF ha hb I h fun v u s2 x y H2 I2 rx ry q=>hr a b pins s2 σ H2 x y v u Q I2 rx ry q (hs _ _))
noncomputable def Bt(K:PySem.W.Frag):R2:=fun x y H Q=>∃ p xs i v,x=.ref p /\ y=.int i /\ SqL K H p xs /\ atI xs i=some v /\ Q v H
noncomputable def FI(K:PySem.W.Frag):R2:=fun x y H Q=>∃ p xs i v,x=.ref p /\ y=.int i /\ SqT K H p xs /\ atI xs i=some v /\ Q v H
theorem bb:IxR X (Bt X.K):=by
 intro value slice pins s σ H x y v u Q I rx ry h hs;obtain⟨p,xs,i,z,rfl,rfl,hq,he,q⟩:=h;cases rx;obtain⟨t,rfl⟩:=ry;obtain⟨its,r,pl,hz⟩:=I.list hq;obtain⟨j,h1,h2,h3,h4,h5⟩:=v3 he;obtain⟨w,ew,rw'⟩:=r.get h2;have hl:=r.length;have hn:=pJ
 have fin:EP X pins σ Q w s:=⟨z,H,I,rw',q⟩
 by_cases h0:0<=i
 . have hj:i.toNat = j:=by
    rw[seqIndex_of h0 h5]at h1;exact Option.some.inj h1
   exact item_listR pl.isList h0 (by omega) (by rw[hj];simpa using ew) fin hs
 . have hj:(i + (its.toArray.size:Int)).toNat = j:=by
    rw[seqIndex_neg (by omega) h4]at h1;rw[List.size_toArray,<- hl];exact Option.some.inj h1
   exact subscriptTail_builtinR (x:=w) pl.isList.typeIs slot_list_getitem.lookup
    (wpAny_getItem_list_neg (Q:=fun r s'=>r=w /\ EP X pins σ Q r s') pl.isList (by omega) (by rw[List.size_toArray]<;>omega) (by omega) (by rw[hj];simpa using ew) ⟨rfl,fin⟩) hs
theorem dS:IxR X (FI X.K):=by
 intro value slice pins s σ H x y v u Q I rx ry h hs;obtain⟨p,xs,i,z,rfl,rfl,hq,he,q⟩:=h;cases rx;obtain⟨t,rfl⟩:=ry;obtain⟨its,r,pl,hz⟩:=I.tuple hq;obtain⟨j,h1,h2,h3,h4,h5⟩:=v3 he;obtain⟨w,ew,rw'⟩:=r.get h2;have hl:=r.length;have hn:=pJ
 have fin:EP X pins σ Q w s:=⟨z,H,I,rw',q⟩
 exact subscriptTail_builtinR (x:=w) pl.typeIs slot_tuple_getitem.lookup
  (getItem_tuple (j:=j) (Q:=fun r s'=>r=w /\ EP X pins σ Q r s') pl (by omega) (by omega) (by rw[List.size_toArray,<- hl];exact h1) (by simpa using ew) ⟨rfl,fin⟩) hs
theorem uW(its:List Value)(n j:Nat)(u:Value):Obj.mapSeq (·.setIfInBounds j u) { cls:=.type "list",data:=.seq its.toArray n }={ cls:=.type "list",data:=.seq (its.set j u).toArray n }:=by
 simp[Obj.mapSeq]
theorem Inv.lst{pins:List (Addr×Obj)}{σ:St}{H:Hp}{s:Shared}{p:Addr}{xs:List V}(I:Inv X pins σ H s)(h:H p=some (.lst xs)):
  ∃(its:List Value) (n:Nat),Vals xs its /\ s.heap.get? p=some { cls:=.type "list",data:=.seq its.toArray n } /\ xs.length<=sizeLine:=by
 obtain⟨z,its,n,r,e⟩:=I.hok p _ h
 exact⟨its,n,r,e,z⟩
theorem Inv.D3{pins:List (Addr×Obj)}{σ:St}{H:Hp}{s:Shared}{p:Addr}{xs ys:List V}{its its':List Value}{n n':Nat}{f:Obj->Obj}(I:Inv X pins σ H s)(h:H p=some (.lst xs))
  (ho:s.heap.get? p=some { cls:=.type "list",data:=.seq its.toArray n }) (hf:f { cls:=.type "list",data:=.seq its.toArray n }={ cls:=.type "list",data:=.seq its'.toArray n' }) (r:Vals ys its') (hz:ys.length<=sizeLine) (t:Nat):
  Inv X pins σ (upd H p (.lst ys)) { s with heap:=s.heap.update p f,toks:=t }:=by
 have e:(s.heap.update p f).get? p=some { cls:=.type "list",data:=.seq its'.toArray n' }:=by
  rw[Heap.get?_update_self f ho (by rw[hf]<;>rfl),hf]
 refine I.write (x:=p) (e:=p) (by rw[h];trivial) (.inl rfl) (fun b u hb q=>(Heap.get?_update_other _ _ (Ne.symm hb)).trans q) ⟨_,e⟩ ?_
 exact⟨hz,its',n',r,e⟩
noncomputable def Cq:V->V->V->Hp->(Hp->Prop)->Prop:=fun o i v H Q=>∃ p xs k j,o=.ref p /\ i=.int k /\ H p=some (.lst xs) /\ ixN xs.length k=some j /\ Q (upd H p (.lst (xs.set j v)))
theorem set_list:DX X Cq:=by
 intro pins s σ H o i v ov iv u Q I ro ri rv h;obtain⟨p,xs,k,j,rfl,rfl,hp,hj,q⟩:=h;cases ro;obtain⟨t,rfl⟩:=ri;obtain⟨its,n,r,ho,hz⟩:=I.lst hp;obtain⟨h1,h2,h3,h4⟩:=vJ hj;have hl:=r.length;have hn:=pJ
 have I':Inv X pins σ (upd H p (.lst (xs.set j v))) { s with heap:=s.heap.update p (Obj.mapSeq (·.setIfInBounds j u)) }:=
  I.D3 hp ho (uW its n j u) (r.set rv j) (by rw[List.length_set];exact hz) s.toks
 by_cases h0:0<=k
 . have hk:k.toNat = j:=by
    rw[seqIndex_of h0 h4]at h1;exact Option.some.inj h1
   exact PySem.W.ki_setAt ho h0 (by omega) (by rw[List.size_toArray,<- hl];exact h4) (by rw[hk];exact⟨_,I',q⟩)
 . have hk:(k + (its.toArray.size:Int)).toNat = j:=by
    rw[seqIndex_neg (by omega) h3]at h1;rw[List.size_toArray,<- hl];exact Option.some.inj h1
   exact PySem.W.ki_setBack ho (by omega) (by rw[List.size_toArray,<- hl];exact h3) (by omega) (by rw[hk];exact⟨_,I',q⟩)
theorem rp(lo hi:Option Int)(n:Nat):(sliceBounds lo hi none n).1=((HT.sIx n 0 lo:Nat):Int) /\ (sliceBounds lo hi none n).2.1=((HT.sIx n n hi:Nat):Int) /\ (sliceBounds lo hi none n).2.2=1:=by
 refine⟨?_,?_,rfl⟩
 . cases lo with
   |none=>simp[sliceBounds,HT.sIx]
   | some i=>
     simp only[sliceBounds,HT.sIx,Option.getD_none,show(1:Int)>0 by decide,if_true]
     by_cases h:i<0
     . simp only[h,if_true]<;>omega
     . simp only[h,if_false]<;>omega
 . cases hi with
   |none=>simp[sliceBounds,HT.sIx]
   | some i=>
     simp only[sliceBounds,HT.sIx,Option.getD_none,show(1:Int)>0 by decide,if_true]
     by_cases h:i<0
     . simp only[h,if_true]<;>omega
     . simp only[h,if_false]<;>omega
theorem qq(its:List Value)(lo hi:Option Int):slicePick its.toArray lo hi none=((its.drop (HT.sIx its.length 0 lo)).take (HT.sIx its.length its.length hi - HT.sIx its.length 0 lo)).toArray:=by
 obtain⟨h1,h2,h3⟩:=rp lo hi its.toArray.size;unfold slicePick;rw[h1,h2,h3]
 simp only[sliceRange_one,pick_run,List.size_toArray]<;>rfl
noncomputable def F5(K:PySem.W.Frag):V->Option Int->Option Int->Hp->VK->Prop:=fun x lo hi H Q=>∃ a xs,x=.ref a /\ SqL K H a xs /\ ∀ p,H p=none->Q (.ref p) (upd H p (.lst (xv xs lo hi)))
theorem BN:SlR X (F5 X.K):=by
 intro pins s σ H x v vl vu lo hi sl Q I rx hs pl pu h;obtain⟨a,xs,rfl,hx,q⟩:=h;cases rx;obtain⟨its,r,ht,hz⟩:=I.list hx;have hlen:=r.length
 refine⟨"list",_,slot_list_getitem.lookup,ht.isList.typeIs,?_⟩
 refine wpAny_getItem_list_slice ht.isList hs pl pu .none (by simp) ?_ (by rw[List.size_toArray]<;>omega);rw[qq,<- hlen]
 refine⟨.ref s.heap.objs.size,_,I.laid (t':=s.toks) (o:=.lst (xv xs lo hi)) (fun b ob q=>Heap.get?_push_of_some _ q) (Nat.le_refl _) ?_,rfl,q _ (I.hok.fresh (Nat.le_refl _))⟩
 exact⟨Nat.le_trans (uz xs lo hi) hz,_,0,(r.drop (HT.sIx xs.length 0 lo)).take (HT.sIx xs.length xs.length hi - HT.sIx xs.length 0 lo),Heap.get?_push_size _ rfl⟩
noncomputable def lH:V->Bool
 |.non=>true
 |.bl _=>true
 |.int _=>true
 |.str _=>true
 |_=>false
noncomputable def eqV:V->V->Bool
 |.non,.non=>true
 |.bl a,.bl b=>a==b
 |.bl a,.int b=>(if a then 1 else 0)==b
 |.int a,.bl b=>a==(if b then 1 else 0)
 |.int a,.int b=>a==b
 |.str a,.str b=>a==b
 |_,_=>false
theorem EE{A:Around}{s:Shared}{y x:V}{u v:Value}(ry:RelV y u)(rx:RelV x v)(fy:lH y=true)(fx:lH x=true):SeqAt.EqAt A s u v (eqV y x):=by
 cases y with
 | non=>
   cases ry
   cases x with
   |non=>cases rx;exact SeqAt.EqAt.same _
   |bl b=>cases rx;exact SeqAt.EqAt.none_bool b
   |int b=>obtain⟨t,rfl⟩:=rx;exact SeqAt.EqAt.none_int b t
   |str b=>obtain⟨t,rfl⟩:=rx;exact SeqAt.EqAt.none_str b t
   |_=>exact absurd (show false=true from fx) Bool.false_ne_true
 | bl a=>
   cases ry
   cases x with
   |non=>cases rx;exact SeqAt.EqAt.bool_none a
   |bl b=>cases rx;exact SeqAt.EqAt.bool_bool a b
   |int b=>obtain⟨t,rfl⟩:=rx;exact SeqAt.EqAt.bool_int a b t
   |str b=>obtain⟨t,rfl⟩:=rx;exact SeqAt.EqAt.bool_str a b t
   |_=>exact absurd (show false=true from fx) Bool.false_ne_true
 | int a=>
   obtain⟨t',rfl⟩:=ry
   cases x with
   |non=>cases rx;exact SeqAt.EqAt.int_none a t'
   |bl b=>cases rx;exact SeqAt.EqAt.int_bool a t' b
   |int b=>obtain⟨t,rfl⟩:=rx;exact SeqAt.EqAt.int_int a t' b t
   |str b=>obtain⟨t,rfl⟩:=rx;exact SeqAt.EqAt.int_str a t' b t
   |_=>exact absurd (show false=true from fx) Bool.false_ne_true
 | str a=>
   obtain⟨t',rfl⟩:=ry
   cases x with
   |non=>cases rx;exact SeqAt.EqAt.str_none a t'
   |bl b=>cases rx;exact SeqAt.EqAt.str_bool a t' b
   |int b=>obtain⟨t,rfl⟩:=rx;exact SeqAt.EqAt.str_int a t' b t
   |str b=>obtain⟨t,rfl⟩:=rx;exact SeqAt.EqAt.str_str a t' b t
   |_=>exact absurd (show false=true from fx) Bool.false_ne_true
 |_=>exact absurd (show false=true from fy) Bool.false_ne_true
noncomputable def eqU(x:V)(u:Value):Bool:=match u with
 |.none=>eqV .non x
 |.bool b=>eqV (.bl b) x
 |.int i _=>eqV (.int i) x
 |.str z _=>eqV (.str z) x
 |_=>false
theorem yo{x y:V}{u:Value}(r:RelV y u)(f:lH y=true):eqU x u=eqV y x:=by
 cases y with
 |non=>cases r;rfl
 |bl b=>cases r;rfl
 |int i=>obtain⟨t,rfl⟩:=r;rfl
 |str z=>obtain⟨t,rfl⟩:=r;rfl
 |_=>exact absurd (show false=true from f) Bool.false_ne_true
theorem sG{x:V}:∀{xs:List V} {us:List Value},Vals xs us->xs.all lH=true->us.any (eqU x)=xs.any fun y=>eqV y x
 |_,_,.nil,_=>rfl
 | y ::xs,u ::us,.cons r t,f=>by
   rw[List.all_cons,Bool.and_eq_true]at f;rw[List.any_cons,List.any_cons,yo r f.1,sG t f.2]
theorem pj{A:Around}{s:Shared}{x:V}{v:Value}(rx:RelV x v)(fx:lH x=true):∀{xs:List V} {us:List Value},Vals xs us->xs.all lH=true->∀ u∈us,SeqAt.EqAt A s u v (eqU x u)
 |_,_,.nil,_=>fun u hu=>by cases hu
 | y ::xs,u ::us,.cons r t,f=>fun u' hu=>by
   rw[List.all_cons,Bool.and_eq_true]at f
   rcases List.mem_cons.mp hu with rfl|hu
   . rw[yo r f.1];exact EE r rx f.1 fx
   . exact pj rx fx t f.2 u' hu
noncomputable def inV(x:V)(xs:List V):Bool:=xs.any fun y=>eqV y x
noncomputable def rIn(K:PySem.W.Frag)(neg:Bool):R2:=fun x y H Q=>∃ p xs,y=.ref p /\ (SqL K H p xs \/ SqT K H p xs) /\ lH x=true /\ xs.all lH=true /\ Q (.bl (if neg then !inV x xs else inV x xs)) H
theorem xb:OpR X (compareOp .In) (rIn X.K false):=by
 intro pins s σ H x y v u Q I rx ry h;obtain⟨p,xs,rfl,hq,fx,fs,q⟩:=h;cases ry
 rcases hq with hq|hq
 . obtain⟨its,r,pl,hz⟩:=I.list hq;refine SeqAt.in_listAt (eqU x) pl.isList (fun w hw=>pj rx fx r fs w (by simpa using hw)) ⟨.bl _,H,I,rfl,?_⟩;rw[show its.toArray.any (eqU x)=its.any (eqU x) by simp,sG r fs];exact q
 . obtain⟨its,r,pl,hz⟩:=I.tuple hq;refine SeqAt.in_tupleAt (eqU x) pl (fun w hw=>pj rx fx r fs w (by simpa using hw)) ⟨.bl _,H,I,rfl,?_⟩;rw[show its.toArray.any (eqU x)=its.any (eqU x) by simp,sG r fs];exact q
theorem sa:iC X (.builtin "len") (fun xs H Q=>∃ p ys,xs=[.ref p] /\ (SqL X.K H p ys \/ SqT X.K H p ys) /\ Q (.int ys.length) H):=by
 intro pins s σ H xs us Q I r h;obtain⟨p,ys,rfl,hq,q⟩:=h;obtain⟨u,rfl,rx⟩:=vals1 r;cases rx;have hn:=pJ
 rcases hq with hq|hq
 . obtain⟨its,r',pl,hz⟩:=I.list hq;have hlen:=r'.length;exact Calls.call_len_list pl.isList (by simp only[List.size_toArray]<;>omega) ⟨.int ys.length,H,I.tok _,⟨s.toks+1,by rw[List.size_toArray,hlen]⟩,q⟩
 . obtain⟨its,r',pl,hz⟩:=I.tuple hq;have hlen:=r'.length;exact len_tuple pl (by simp only[List.size_toArray]<;>omega) ⟨.int ys.length,H,I.tok _,⟨s.toks+1,by rw[List.size_toArray,hlen]⟩,q⟩
theorem sM:iC X (.type "list") (fun xs H Q=>∃ p ys,xs=[.ref p] /\ (SqL X.K H p ys \/ SqT X.K H p ys) /\ ∀ l,H l=none->Q (.ref l) (upd H l (.lst ys))):=by
 intro pins s σ H xs us Q I r h;obtain⟨p,ys,rfl,hq,q⟩:=h;obtain⟨u,rfl,rx⟩:=vals1 r;cases rx
 have fin:∀(its:List Value),Vals ys its->ys.length<=sizeLine->∀(h':Heap) (c':Nat),(∀ b o',s.heap.get? b=some o'->h'.get? b=some o') ->
   h'.get? s.heap.objs.size=some { cls:=.type "list",dict:=none,data:=.seq its.toArray c',slots:=#[] }->EP X pins σ Q (.ref s.heap.objs.size) { s with heap:=h' }:=fun its r' hz h' c' kp e=>
  ⟨.ref s.heap.objs.size,_,I.laid (t':=s.toks) kp (Nat.le_refl _) (show dA X.prog X.w _ h' _ (.lst ys) from⟨hz,its,c',r',e⟩),rfl,q _ (I.hok.fresh (Nat.le_refl _))⟩
 rcases hq with hq|hq
 . obtain⟨its,r',pl,hz⟩:=I.list hq;have hlen:=r'.length;obtain⟨o,ho,hc,n,hd⟩:=pl.isList;exact call_list_seq p (.inl rfl) ho hc hd (fun h' c' kp e=>fin its r' hz h' c' kp e) (by simp only[List.size_toArray]<;>omega)
 . obtain⟨its,r',pl,hz⟩:=I.tuple hq;have hlen:=r'.length;obtain⟨o,ho,hc,n,hd⟩:=pl;exact call_list_seq p (.inr rfl) ho hc hd (fun h' c' kp e=>fin its r' hz h' c' kp e) (by simp only[List.size_toArray]<;>omega)
theorem gv:iC X (.type "tuple") (fun xs H Q=>∃ p ys,xs=[.ref p] /\ ((SqL X.K H p ys /\ ∀ l,H l=none->Q (.ref l) (upd H l (.tup ys))) \/ (SqT X.K H p ys /\ Q (.ref p) H))):=by
 intro pins s σ H xs us Q I r h;obtain⟨p,ys,rfl,h⟩:=h;obtain⟨u,rfl,rx⟩:=vals1 r;cases rx
 rcases h with⟨hq,q⟩|⟨hq,q⟩
 . obtain⟨its,r',pl,hz⟩:=I.list hq;have hlen:=r'.length;refine call_tuple_list pl.isList (fun h' kp=>?_) (by simp only[List.size_toArray]<;>omega)
   have I1:Inv X pins σ H { s with heap:=h' }:=I.kept (t':=s.toks) kp
   have I2:Inv X pins σ (upd H h'.objs.size (.tup ys)) { s with heap:=h'.push { cls:=.type "tuple",data:=.seq its.toArray } }:=
    I1.laid (t':=s.toks) (fun b o e=>Heap.get?_push_of_some _ e) (Nat.le_refl _) (show dA X.prog X.w _ _ _ (.tup ys) from⟨hz,its,r',IsTup.new _ _⟩)
   exact⟨.ref h'.objs.size,_,I2,rfl,q _ (I1.hok.fresh (Nat.le_refl _))⟩
 . obtain⟨its,r',pl,hz⟩:=I.tuple hq;exact call_tuple_same pl ⟨.ref p,H,I,rfl,q⟩
noncomputable def tyV(K:PySem.W.Frag)(T:String)(x:V)(H:Hp):Prop:=match x with
 |.str _=>T = "str"
 |.int _=>T = "int"
 | .ref p=>(T = "list" /\ ∃ xs,SqL K H p xs) \/ (T = "tuple" /\ ∃ o,K.lookup p = some o /\ o.cls = .type "tuple" /\ o.dict = none) \/
    (T = "dict" /\ ((∃ kvs,H p=some (.dK kvs)) \/ ∃ kvs,H p=some (.dT kvs))) \/ (T = "set" /\ ∃ S n,H p=some (.set S n))
 |_=>False
theorem yW{pins:List (Addr×Obj)}{σ:St}{H:Hp}{s:Shared}{T:String}{x:V}{v:Value}(I:Inv X pins σ H s)(r:RelV x v)(ty:tyV X.K T x H):
  s.TypeIs v T /\ ∀ a,v=.ref a->∃ ob,s.heap.get? a=some ob /\ ob.dict=none:=by
 cases x with
 | str z=>
   obtain⟨t,rfl⟩:=r
   cases(show T = "str" from ty)
   exact⟨typeIs_str s z t,fun _ e=>nomatch e⟩
 | int i=>
   obtain⟨t,rfl⟩:=r
   cases(show T = "int" from ty)
   exact⟨typeIs_int s i t,fun _ e=>nomatch e⟩
 | ref p=>
   cases r
   rcases ty with⟨rfl,xs,hq⟩|⟨rfl,o,hk,hc,hd⟩|⟨rfl,hk⟩|⟨rfl,S,n,hk⟩
   . obtain⟨its,_,pl,_⟩:=I.list hq
     refine⟨pl.isList.typeIs,fun a e=>?_⟩
     cases e;obtain⟨o,n,e,c,hd,_⟩:=pl
     exact⟨o,e,hd⟩
   . refine⟨⟨o,I.kIn p o hk,hc⟩,fun a e=>?_⟩
     cases e
     exact⟨o,I.kIn _ o hk,hd⟩
   . have z:∃ o,s.heap.get? p = some o /\ o.ExactDict:=by
      rcases hk with⟨kvs,hk⟩|⟨kvs,hk⟩
      . obtain⟨_,_,_,_,o,_,_,e,ex,_⟩:=I.hok p _ hk
        exact⟨o,e,ex⟩
      . obtain⟨_,_,_,_,o,_,_,e,ex,_⟩:=I.hok p _ hk
        exact⟨o,e,ex⟩
     obtain⟨o,e,ex⟩:=z
     refine⟨⟨o,e,ex.1⟩,fun a e2=>?_⟩
     cases e2
     exact⟨o,e,ex.2.1⟩
   . obtain⟨o,_,_,_,e,ex,_⟩:=I.hok p _ hk
     refine⟨⟨o,e,ex.1⟩,fun a e2=>?_⟩
     cases e2
     exact⟨o,e,ex.2.1⟩
 |_=>exact False.elim ty
noncomputable def El(K:PySem.W.Frag)(T:String)(r:V->List V->Hp->VK->Prop)(to:TE):TE:=fun σ H Q=>to σ H fun x H1=>tyV K T x H1 /\ r x [] H1 Q
noncomputable def tBM(K:PySem.W.Frag)(T:String)(r:V->List V->Hp->VK->Prop)(to:TE)(t:TA):TE:=fun σ H Q=>to σ H fun x H1=>tyV K T x H1 /\ t σ H1 fun xs H2=>r x xs H2 Q
variable{o e:Expr}{es:List Expr}{to:TE}{t:TA}{name:Str}{apos cpos:Pos}{T id:String}{r:V->List V->Hp->VK->Prop}
theorem Dz(pa:PlainAttrs T)(slot:Slot T name id)(hty:typeOf (.builtin id)=pure (.type "method_descriptor"))(hm:MtR X id r)(ho:PE X o to)
  (hbase:attributeBase o name X.env (eval o X.env)=eval o X.env:=by rfl) (hline:(apos.endLine==cpos.line)=true:=by rfl):PE X (.Call (.Attribute o name apos) [] [] cpos) (El X.K T r to):=by
 intro pins s σ H Q I h;refine wpAny_Call_method0_late hbase hline (thn (ho pins s σ H _ I h) fun v s1 ⟨x,H1,I1,r1,ty,q1⟩=>?_);obtain⟨h1,h2⟩:=yW I1 r1 ty
 exact⟨T,id,pa,slot,hty,h1,h2,Calls.callWith_builtin rfl (PySem.evalArgs_none (hm pins s1 σ H1 x [] v [] Q I1 r1 .nil q1))⟩
theorem FO(pa:PlainAttrs T)(slot:Slot T name id)(hty:typeOf (.builtin id)=pure (.type "method_descriptor"))(hm:MtR X id r)(ho:PE X o to)(ha:PA X (e ::es) t)
  (hbase:attributeBase o name X.env (eval o X.env)=eval o X.env:=by rfl)
  (hfew:((backTo cpos (starEach (e ::es) X.env)).all (fun x=>!x.1)&&(backToKw cpos (keywordEach [] X.env)).all (fun x=>x.1.isSome)
    && decide ((e ::es).length+([]:List Keyword).length+(if([]:List Keyword).isEmpty then 0 else 1)<30))=true:=by rfl)
  (hline:(apos.endLine==cpos.line)=true:=by rfl) (hs:starEach (e ::es) X.env=(false,eval e X.env) ::starEach es X.env:=by rfl) (hplain:(backTo cpos (starEach es X.env)).any (·.1)=false:=by rfl):
  PE X (.Call (.Attribute o name apos) (e ::es) [] cpos) (tBM X.K T r to t):=by
 intro pins s σ H Q I h;refine wpAny_Call_method_late hbase hfew hline rfl (thn (ho pins s σ H _ I h) fun v s1 ⟨x,H1,I1,r1,ty,q1⟩=>?_);obtain⟨h1,h2⟩:=yW I1 r1 ty
 refine⟨T,id,pa,slot,hty,h1,h2,?_⟩
 have hA:=ha cpos pins s1 σ H1 _ I1 q1
 rw[hs]at hA ⊢
 refine Calls.callWith_builtin (by show(false||(backTo cpos (starEach es X.env)).any (·.1))=false;rw[hplain]<;>rfl) (Calls.evalArgs_plain ?_)
 exact thn hA fun us s2 ⟨vs,H2,I2,r2,q2⟩=>hm pins s2 σ H2 x vs v us Q I2 r1 r2 q2
end
noncomputable def MtM(X:Cx)(id:String)(r:V->List V->Hp->VK->Prop):Prop:=
 ∀(pins:List (Addr×Obj)) (s:Shared) (σ:St) (H:Hp) (x:V) (xs:List V) (v:Value) (us:List Value) (Q:VK),Inv X pins σ H s->RelV x v->Vals xs us->r x xs H Q ->
   wpAny (model X.prog X.w) X.A (call (.builtin id) (v ::us)) (EP X pins σ Q) X.xe s
theorem Vals.one:∀{x:V} {us:List Value},Vals [x] us->∃ u,us=[u] /\ RelV x u
 |_,_,.cons r .nil=>⟨_,rfl,r⟩
theorem Vals.two:∀{x y:V} {us:List Value},Vals [x,y] us->∃ u v,us=[u,v] /\ RelV x u /\ RelV y v
 |_,_,_,.cons r (.cons q .nil)=>⟨_,_,rfl,r,q⟩
theorem Vals.zero:∀{us:List Value},Vals [] us->us=[]
 |_,.nil=>rfl
theorem Vals.dropLast{xs:List V}{us:List Value}(h:Vals xs us):Vals xs.dropLast us.dropLast:=by
 induction h with
 |nil=>exact .nil
 | cons r t ih=>
   cases t with
   |nil=>exact .nil
   |cons q t'=>exact .cons r ih
theorem Vals.eraseIdx:∀{xs:List V} {us:List Value} (i:Nat),Vals xs us->Vals (xs.eraseIdx i) (us.eraseIdx i)
 |_,_,_,.nil=>.nil
 |_,_,0,.cons _ t=>t
 |_,_,i+1,.cons r t=>.cons r (Vals.eraseIdx i t)
theorem uP{α:Type}(l:List α):l.eraseIdx (l.length - 1)=l.dropLast:=by
 induction l with
 |nil=>rfl
 | cons a r ih=>
   cases r with
   |nil=>rfl
   | cons b r=>
     have e:(a ::b ::r).length - 1=((b ::r).length - 1)+1:=by
      have h1:(a ::b ::r).length=r.length+2:=rfl
      have h2:(b ::r).length=r.length+1:=rfl
      omega
     rw[e,List.eraseIdx_cons_succ,ih]
     all_goals rfl
section
variable{X:Cx}{pins:List (Addr×Obj)}{σ:St}{H:Hp}{s:Shared}{l b:Addr}{xs ys zs:List V}
theorem Inv.Du{its its':List Value}{n:Nat}{f:Array Value->Array Value}{t':Nat}(I:Inv X pins σ H s)(hH:H l=some (.lst xs))
  (e:s.heap.get? l=some { cls:=.type "list",data:=.seq its.toArray n }) (hf:f its.toArray=its'.toArray) (hv:Vals ys its') (hz:ys.length<=sizeLine):
  Inv X pins σ (upd H l (.lst ys)) { s with heap:=s.heap.update l (Obj.mapSeq f),toks:=t' }:=by
 have q:=PySem.IsL.update e f;rw[hf]at q;refine I.write (x:=l) (e:=l) (by rw[hH];exact trivial) (.inl rfl) (fun b' u hb hu=>(Heap.get?_update_other s.heap (Obj.mapSeq f) (Ne.symm hb)).trans hu) ⟨_,q⟩ ?_
 exact⟨hz,its',_,hv,q⟩
theorem Inv.yT{its:List Value}{t':Nat}(I:Inv X pins σ H s)(hv:Vals ys its)(hz:ys.length<=sizeLine):
  Inv X pins σ (upd H s.heap.objs.size (.lst ys)) { s with heap:=s.heap.push { cls:=.type "list",data:=.seq its.toArray },toks:=t' }:=
 I.laid (fun _ _ q=>Heap.get?_push_of_some _ q) (Nat.le_refl _) ⟨hz,its,0,hv,Heap.get?_push_size _ rfl⟩
theorem Inv.fresh(I:Inv X pins σ H s):H s.heap.objs.size=none:=I.hok.fresh (Nat.le_refl _)
theorem Inv.Eg(I:Inv X pins σ H s)(hH:H l=some (.lst xs)):xs.length<=sizeLine /\ ∃(its:List Value) (n:Nat),Vals xs its /\ xs.length=its.length /\ s.heap.get? l=some { cls:=.type "list",data:=.seq its.toArray n }:=by
 obtain⟨z,its,n,r,e⟩:=I.hok l _ hH
 exact⟨z,its,n,r,r.length,e⟩
theorem zh{n:Nat}(h:n<=sizeLine):Builtin.List.listTooLong n=false:=by
 unfold Builtin.List.listTooLong;exact decide_eq_false (by omega)
end
section
variable{X:Cx}
noncomputable def rA:V->List V->Hp->VK->Prop:=fun x vs H Q=>∃ l xs y,x=.ref l /\ vs=[y] /\ H l=some (.lst xs) /\ xs.length<sizeLine /\ Q .non (upd H l (.lst (xs++[y])))
theorem aW:MtM X "list.append" rA:=by
 intro pins s σ H x vs v us Q I rx rv h;obtain⟨l,xs,y,rfl,rfl,hH,hz,q⟩:=h;cases rx;obtain⟨u,rfl,ru⟩:=rv.one;obtain⟨z,its,n,r,hl,e⟩:=I.Eg hH;refine call_meets F.slot_list_append ⟨_,e,rfl⟩ F.entry_list_append (F.args_list_append_2 _ _) (PySem.list_append l its.toArray n u (by rw[List.size_toArray];omega)) ⟨e,?_⟩
 refine⟨.non,_,I.Du (its':=its++[u]) hH e (by simp) (r.append (.cons ru .nil)) ?_,rfl,q⟩
 rw[List.length_append,List.length_singleton];omega
noncomputable def F8:V->List V->Hp->VK->Prop:=fun x vs H Q=>∃ l xs y,x=.ref l /\ vs=[] /\ H l=some (.lst xs) /\ xs[xs.length - 1]?=some y /\ Q y (upd H l (.lst xs.dropLast))
theorem Ea:MtM X "list.pop" F8:=by
 intro pins s σ H x vs v us Q I rx rv h;obtain⟨l,xs,y,rfl,rfl,hH,hy,q⟩:=h;cases rx;have hus:=rv.zero;subst hus;obtain⟨z,its,n,r,hl,e⟩:=I.Eg hH;obtain⟨u,hu,ru⟩:=r.get hy
 have hy':its.toArray[its.toArray.size - 1]?=some u:=by
  show its.toArray[its.length - 1]?=some u;rw[<- Array.getElem?_toList,<- hl];exact hu
 refine call_meets F.slot_list_pop ⟨_,e,rfl⟩ F.entry_list_pop (F.args_list_pop_1 _) (MeetsSeq.list_pop_last l its.toArray n u hy' (by rw[List.size_toArray];omega)) ⟨e,?_⟩
 refine⟨y,_,I.Du (its':=its.dropLast) hH e ?_ r.dropLast ?_,ru,q⟩
 . show its.toArray.eraseIdxIfInBounds (its.toArray.size - 1)=its.dropLast.toArray;rw[List.size_toArray,List.eraseIdxIfInBounds_toArray,uP]
 . rw[List.length_dropLast];omega
end
section
variable{prog:Program}{w:World}{A:Around}{E:Value->Shared->Prop}{s:Shared}
set_option maxRecDepth 100000 in
end
end L2
namespace Att
open PySem PySem.W PySem.Calls PyProof.Rows
theorem oH{P:Params}{h:Heap}:∀(ns:List Int) (vs:List Value),WellAll P h vs (ns.map WData.int)->IntsAre vs ns:=by
 intro ns
 induction ns with
 | nil=>
   intro vs w;rw[List.map_nil]at w;cases w;exact .nil
 | cons n ns ih=>
   intro vs w;rw[List.map_cons]at w
   cases w with
   | cons a b=>
     cases a;exact .cons _ _ (ih _ b)
theorem xk{l:OpenLaw}{n:Nat}(hn:l.most=some n){P:Params}{h:Heap}{args:List WData}{vals:List Value}
  (hpre:l.row.toRowW.claim.pre args=true) (hwl:WellAll P h vals args):
  ∃ a vs ns,vals=[Value.ref a] /\ args=[WData.list (ns.map WData.int)] /\ h.get? a=some { cls:=.type "list",data:=.seq vs.toArray } /\ IntsAre vs ns /\ ns.length<=n:=by
 have hsh:WShape.hasAll [] args [.list .int]=true:=(pre_splitW hpre).1
 have hc:l.pre.holds [] { args:=args }=true:=(pre_splitW hpre).2
 obtain⟨d,r,rfl,h1,h2⟩:=hasAllW_cons hsh
 obtain rfl:=hasAllW_nil h2
 obtain⟨xs,rfl,h3⟩:=hasW_list h1;obtain⟨ns,rfl⟩:=items_int h3
 have hlen:ns.length<=n:=by
  unfold OpenLaw.pre at hc
  have h4:(WTm.not (.lt (.lit (.int (n:Int))) (.len (.arg 0)))).holds [] { args:=[.list (ns.map .int)] }=true:=by
   have h4:=(holds_andW hc).1;rw[hn]at h4;exact h4
  have h5:=condW_of h4 (w_not (w_lt w_lit (w_len_list (w_arg rfl))));rw[List.length_map]at h5
  refine Nat.le_of_not_lt fun q=>?_
  have q':(n:Int)<((ns.length:Nat):Int):=by omega
  first
   |(rw[decide_eq_true q']at h5;exact absurd h5 (by decide))
   |(simp at h5;omega)
 cases hwl with
 | cons w1 w2=>
   cases w2
   cases w1 with
   |list ho hall=>exact⟨_,_,ns,rfl,rfl,ho,oH ns _ hall,hlen⟩
theorem xq(l:OpenLaw)(args:List WData):l.row.toRowW.claim.post args (.bool true) args=true:=
 postW_of (r:=l.row.toRowW) (X:=(true==true))
  (show WShape.has [] (.bool true) .bool=true by first|rfl|decide|simp[WShape.has,WShape.arms,WShape.armsAll])
  (show(WTm.eq .res (.lit (.bool true))).value [] { args:=args,res:=some (.bool true),after:=args }=some (.bool (true==true)) from w_eq_bool (w_res rfl) w_lit) rfl
theorem uv{l:OpenLaw}{n:Nat}{q:Program}{loose:List Str}{XP:(Str->Option Value)->Heap->Prop}{YP:World->Heap->Prop}{d:DefRec}
  (hn:l.most=some n) (hdf:d.params.defaults=[])
  (call:∀(w:World) (s₀ s₁:Shared) (mg mb:Str->Option Value) (fa:Addr) (o:Obj) (pm cd doc:Value) (a:Addr) (vs:List Value) (ns:List Int),
    Ground q loose [] XP w s₀ mg mb s₁.heap->YP w s₁.heap ->
    s₁.heap.get? fa=some o->o.data=.func (docDef d.name d.params d.body d.scope pm cd doc)->s₁.heap.CodeRec cd d.name->mg d.name=some (.ref fa) ->
    s₁.heap.get? a=some { cls:=.type "list",data:=.seq vs.toArray }->IntsAre vs ns->ns.length<=n->s₁.gens=#[] ->
    codeAny (model l.prog w) callerA (.call (.ref fa) ⟨[.ref a],[]⟩) (fun r s'=>r=.ok (.ret (.bool true)) /\ OldK s₁.heap s'.heap /\ s'.os=s₁.os /\ AllBare s'.gens) s₁):
  WalkO q loose XP YP l.row.toRowW d [] (fun f vs=>PySem.call f vs):=by
 intro w s₀ s₁ mg mb G Y fa o pm cd doc dV kV ho hd hcd hD hmg hg args vals as hpre hlay hrd hwl hlo
 obtain rfl:dV=.none:=Dflts.none hD hdf
 obtain rfl:kV=.none:=Dflts.noKw hD
 obtain⟨a,vs,ns,rfl,rfl,hobj,hints,hlen⟩:=xk hn hpre hwl;refine enter_call (codeAny_mono (call w s₀ s₁ mg mb fa o pm cd doc a vs ns G Y ho (fd_plain hd) hcd hmg hobj hints hlen hg) fun r s' hq=>?_);obtain⟨rfl,h2,h3,h4⟩:=hq
 exact⟨.inl ⟨.bool true,.bool true,[],rfl,fun _=>rfl,.bool true,xq l _,fun _=>⟨List.Pairwise.nil,fun _ hm=>(nomatch hm)⟩⟩,h2,h3,h4⟩
end Att
namespace L2
open PySem PySem.Spec PyProof.Rows
theorem qI:∀{vs:List Value} {ns:List Int},IntsAre vs ns->Vals (ns.map V.int) vs
 |_,_,.nil=>.nil
 |_,_,.cons n t h=>.cons ⟨t,rfl⟩ (qI h)
noncomputable def CT(H:Hp):Prop:=∀ b,H b=none \/ ∃ o xs,H b=some (.frz o (.lst xs))
theorem zt{P:Program}{w:World}{K:PySem.W.Frag}{mg mb:Str->Option Value}{CX:CXT}{k:Nat}{fa a:Addr}{fd:FuncData}{x:Str}{sp:Sp}{s₁:Shared}{vs:List Value}{ns:List Int}
  (KX:K.In s₁.heap) (hns:s₁.heap.Ns mainGlobals mg) (hb:s₁.heap.Ns builtinsNs mb) (hbb:∀ x:Str,x ≠ "__name__" -> mb x=bootBuiltins x) (hlim:s₁.heap.NoLimit) (hg:s₁.gens=#[])
  (ha:s₁.heap.get? a=some { cls:=.type "list",data:=.seq vs.toArray }) (hi:IntsAre vs ns) (hl:ns.length<=sizeLine) (hr:hJ k callerA)
  (F:∀ base:Heap,K.In base->base.Ns mainGlobals mg->cT P w K mg base CX k fa fd [x] sp) (hbind:∀(s:Shared) (u:Value),BindsTo s fd ⟨[u],[]⟩ [(x,u)])
  (hsp:∀ H:Hp,CT H->SqL K H a (ns.map V.int)->sp [.ref a] H (fun v _=>v=.bl true) fun _ _ _=>False)
  (hCX:∀ H e s',CX [] H s₁ (fun _ _ _=>False) e s'->False):
  codeAny (model P w) callerA (.call (.ref fa) ⟨[.ref a],[]⟩) (fun r s'=>r=.ok (.ret (.bool true)) /\ OldK s₁.heap s'.heap /\ s'.os=s₁.os /\ AllBare s'.gens) s₁:=by
 have rv:=qI hi;have lenV:=hi.length
 have core:∀ H:Hp,CT H->SqL K H a (ns.map V.int)->HOk P w H s₁.heap->(∀ b,H b≠none->b=a)->(H a≠none->K.lookup a=none) ->
   codeAny (model P w) callerA (.call (.ref fa) ⟨[.ref a],[]⟩) (fun r s'=>r=.ok (.ret (.bool true)) /\ OldK s₁.heap s'.heap /\ s'.os=s₁.os /\ AllBare s'.gens) s₁:=by
  intro H hO hS hok hA hK
  have base_of:∀{b:Addr} {o:Obj},s₁.heap.get? b=some o->H b=none->(sf s₁.heap H).get? b=some o:=fun e n=>zk e n
  have noA:∀{b:Addr} {o:Obj} {es:Array DictEntry} {ep:Nat},s₁.heap.get? b=some o->o.data=.dict es ep->H b=none:=fun {b o es ep} e d=>by
   cases q:H b with
   |none=>rfl
   | some u=>
     have e':b=a:=hA b (by rw[q];simp)
     subst e';rw[ha]at e;cases e
     have d':Data.seq vs.toArray _=Data.dict es ep:=d
     cases d'
  have nsK:∀{b:Addr} {m:Str->Option Value},s₁.heap.Ns b m->(sf s₁.heap H).Ns b m:=fun {b m} ⟨o,es,ep,e,d,r⟩=>⟨o,es,ep,base_of e (noA e d),d,r⟩
  have hKb:K.In (sf s₁.heap H):=fun b o e=>base_of (KX b o e) (by
   cases q:H b with
   |none=>rfl
   | some u=>
     have e':b=a:=hA b (by rw[q];simp)
     subst e'
     rw[hK (by rw[q];simp)]at e;cases e)
  have hM:Mod K mg (sf s₁.heap H):=⟨hKb,nsK hns,⟨mb,nsK hb,hbb⟩,let ⟨mc,h1,h2⟩:=hlim;⟨mc,nsK h1,h2⟩⟩
  have e0:A2 P w K mg (sf s₁.heap H) callerA [] s₁ H:=⟨rfl,hM,fun b o e=>Be e,Nat.le_of_eq (xx _ _),trivial,fun b hb=>absurd (show b∈([]:List Addr) from hb) (by simp),hok,.of_eq hg⟩
  refine codeAny_mono ((F _ hKb (nsK hns)).run callerA [] s₁ H ⟨[.ref a],[]⟩ [.ref a] [.ref a] _ _ hr e0 (hbind s₁ (.ref a)) (.cons rfl .nil) (hsp H hO hS)) fun r s' h=>?_
  cases r with
  |error e=>exact(hCX H e s' h).elim
  | ok fl=>
    cases fl with
    |next=>exact False.elim h
    |brk=>exact False.elim h
    |cont=>exact False.elim h
    | ret u=>
      obtain⟨v,H',os,bare,un,hok',r',q⟩:=h
      have q':v=.bl true:=q
      subst q'
      obtain rfl:u=Value.bool true:=r'
      refine⟨rfl,OldK.of_keep fun b o e=>?_,os,bare⟩
      cases q:H b with
      |none=>exact un.keep b o e q (by intro z;exact absurd (show b∈([]:List Addr) from z) (by simp)) (by simp)
      | some u=>
        rcases hO b with z|⟨ob,xs,z⟩
        . rw[q]at z;cases z
        . have z2:=un.frzs b ob _ z;obtain⟨e1,_⟩:=hok b _ z;obtain⟨e2,_⟩:=hok' b _ z2;rw[e]at e1;cases e1;exact e2
 cases hk:K.lookup a with
 | some o=>
   have e:=KX a o hk;rw[ha]at e;cases e
   refine core (fun _=>none) (fun _=>.inl rfl) (.inr ⟨_,vs.toArray,_,hk,rfl,rfl,rfl,by rw[List.size_toArray,lenV];exact hl,by simpa using rv⟩) (fun b u z=>by have z':(none:Option HO)=some u:=z;cases z') (fun b z=>absurd rfl z) fun z=>absurd rfl z
 | none=>
   refine core (fun b=>if b=a then some (.frz { cls:=.type "list",data:=.seq vs.toArray } (.lst (ns.map V.int)))else none) (fun b=>?_) (.inl (.inr ⟨{ cls:=.type "list",data:=.seq vs.toArray },if_pos rfl⟩)) (fun b u z=>?_) (fun b z=>?_) fun _=>hk
   . by_cases hb:b=a
     . exact .inr ⟨_,_,if_pos hb⟩
     . exact .inl (if_neg hb)
   . by_cases hb:b=a
     . have z':=(if_pos hb).symm.trans z
       cases z'
       subst hb
       exact⟨ha,by rw[List.length_map];exact hl,vs,_,rv,ha⟩
     . have z':=(if_neg hb).symm.trans z
       cases z'
   . by_cases hb:b=a
     . exact hb
     . exact absurd (if_neg hb) z
abbrev KOf{K:PySem.W.Frag}{h:Heap}(_:K.In h):PySem.W.Frag:=K
theorem Bj{l:PySem.W.OpenLaw}{n k:Nat}{q:Program}{loose:List Str}{XP:(Str->Option Value)->Heap->Prop}{YP:World->Heap->Prop}{d:DefRec}{K:Params->PySem.W.Frag}{CX:World->CXT}{sp:World->Sp}{x:Str}
  (hn:l.most=some n) (hn2:n<=sizeLine) (hdf:d.params.defaults=[]) (hr:hJ k callerA)
  (hY:∀(w:World) (h:Heap),YP w h->(K w.params).In h)
  (F:∀(w:World) (mg:Str->Option Value) (fa:Addr) (h:Heap),(K w.params).In h->h.Ns mainGlobals mg->mg d.name=some (.ref fa) ->
    ∃ fd:FuncData,(∀(s:Shared) (u:Value),BindsTo s fd ⟨[u],[]⟩ [(x,u)]) /\
      ∀ base:Heap,(K w.params).In base->base.Ns mainGlobals mg->cT l.prog w (K w.params) mg base (CX w) k fa fd [x] (sp w))
  (hsp:∀(w:World) (H:Hp) (a:Addr) (ns:List Int),ns.length<=n->CT H->SqL (K w.params) H a (ns.map V.int)->sp w [.ref a] H (fun v _=>v=.bl true) fun _ _ _=>False)
  (hCX:∀(w:World) (H:Hp) (s:Shared) (e:Value) (s':Shared),CX w [] H s (fun _ _ _=>False) e s'->False):
  PySem.W.WalkO q loose XP YP l.row.toRowW d [] (fun f vs=>PySem.call f vs):=by
 refine Att.uv hn hdf fun w s₀ s₁ mg mb fa o pm cd doc a vs ns G Y ho hd hcd hmg hobj hints hlen hg=>?_
 have KX:=hY w _ Y;obtain⟨fd,hb,hF⟩:=F w mg fa _ KX G.T.g hmg
 exact zt KX G.T.g G.T.b G.T.builtins G.T.nolimit hg hobj hints (Nat.le_trans hlen hn2) hr hF hb (fun H hO hS=>hsp w H a ns hlen hO hS) fun H e s'=>hCX w H s₁ e s'
noncomputable def fm(s:Stmt):Arguments:=match s with
 |.FunctionDef _ a _ _ _ _ _ _ _ _=>a
 |_=>{ posonlyargs:=[],args:=[],vararg:=none,kwonlyargs:=[],kw_defaults:=[],kwarg:=none,defaults:=[] }
noncomputable def cZ(s:Stmt):List Stmt:=match s with
 |.FunctionDef _ _ b _ _ _ _ _ _ _=>b
 |_=>[]
noncomputable def aG(s:Stmt):Scope:=match s with
 |.FunctionDef _ _ _ _ _ _ sc _ _ _=>sc
 |_=>{ kind:=.function,names:=[],isGenerator:=false,isCoroutine:=false }
structure Fun(K:PySem.W.Frag)(x qual:Str)(st:Stmt)(f:Addr)(fd:FuncData):Prop where
 ex:∃(oc:Value) (od:Option Addr) (kV doc pm:Value) (an:Option Addr) (cdv ct:Value) (osl:Array (Option Value)),
  fd=PySem.W.fnOf x qual (fm st) (cZ st) (aG st) .none kV doc pm an cdv ct /\ K.lookup f=some ⟨oc,od,.func fd,osl⟩ /\ PySem.W.codeIn K cdv qual=true
 kp:PySem.W.keepIn K (.ref f)=true
section
variable{P:Program}{w:World}{K:PySem.W.Frag}{mg:Str->Option Value}{base:Heap}
theorem Fun.binds{x qual:Str}{st:Stmt}{f:Addr}{fd:FuncData}{ps:List Str}(F:Fun K x qual st f fd)
  (h:∀(kV doc pm:Value) (an:Option Addr) (cdv ct:Value) (us:List Value),us.length=ps.length->bindArgs (PySem.W.fnOf x qual (fm st) (cZ st) (aG st) .none kV doc pm an cdv ct) ⟨us,[]⟩=pure (ps.zip us)):Binds K fd ps []:=by
 obtain⟨oc,od,kV,doc,pm,an,cdv,ct,osl,rfl,lk,hcd⟩:=F.ex;exact .all (h kV doc pm an cdv ct)
theorem ET{x qual:Str}{st:Stmt}{f:Addr}{oc:Value}{od an:Option Addr}{osl:Array (Option Value)}{kV doc pm cdv ct:Value}(l:K.lookup f=some ⟨oc,od,.func (PySem.W.fnOf x qual (fm st) (cZ st) (aG st) .none kV doc pm an cdv ct),osl⟩)
  (c:PySem.W.codeIn K cdv qual=true) (k:PySem.W.keepIn K (.ref f)=true):Fun K x qual st f (PySem.W.fnOf x qual (fm st) (cZ st) (aG st) .none kV doc pm an cdv ct):=⟨⟨oc,od,kV,doc,pm,an,cdv,ct,osl,rfl,l,c⟩,k⟩
end
theorem uf{A:Around}{k:Nat}(hr:hJ k A):A.units+1<cLine:=Nat.lt_of_le_of_lt (Nat.add_le_add_left (by decide:1<=64) _) hr.units
section
variable{X:Cx}
theorem pv(i:Nat){x:Str}{pos:Pos}(hN:X.N[i]?=some x:=by rfl)(hv:Vis X.env.scope x:=by first|exact Or.inl rfl|exact Or.inr (Or.inl rfl)|exact Or.inr (Or.inr rfl))(hd:(x==("__debug__":Str))=false:=by decide)
  (hcd:(x==("__classdict__":Str))=false:=by decide):PE X (.Name x pos) (uR i):=EB hN hv hd hcd
end
theorem tU{A B:Prop}(h:B):if false=true then A else B:=by
 rw[if_neg Bool.false_ne_true];exact h
theorem sZ{A B:Prop}(h:A):if true=true then A else B:=by
 rw[if_pos rfl];exact h
noncomputable def ay(H H':Hp):Prop:=∀ b o,H b=some o->H' b=some o
theorem ay.refl(H:Hp):ay H H:=fun _ _ h=>h
theorem ay.trans{H H1 H2:Hp}(a:ay H H1)(b:ay H1 H2):ay H H2:=fun c o h=>b c o (a c o h)
theorem ay.free{H H':Hp}(e:ay H H'){l:Addr}(h:H' l=Option.none):H l=Option.none:=by
 cases q:H l with
 |none=>rfl
 | some o=>
   rw[e l o q]at h;cases h
theorem ay.seq{K:PySem.W.Frag}{H H':Hp}{a:Addr}{xs:List V}(e:ay H H')(h:SqL K H a xs):SqL K H' a xs:=by
 rcases h with(h|⟨o,h⟩)|h
 . exact .inl (.inl (e _ _ h))
 . exact .inl (.inr ⟨o,e _ _ h⟩)
 . exact .inr h
section
variable{κ:Type}[DecidableEq κ]
noncomputable def i0(kvs:List (κ×V))(k:κ):Option V:=(kvs.find? fun kv=>decide (kv.1=k)).map (·.2)
noncomputable def putK(kvs:List (κ×V))(k:κ)(v:V):List (κ×V):=
 if(kvs.any fun kv=>decide (kv.1=k))=true then kvs.map (fun kv=>if kv.1=k then(kv.1,v)else kv)else kvs++[(k,v)]
theorem pK{p:κ×V}{r:List (κ×V)}{k:κ}(e:p.1=k):i0 (p ::r) k=some p.2:=by simp[i0,List.find?_cons,e]
theorem o8{p:κ×V}{r:List (κ×V)}{k:κ}(e:¬ p.1=k):i0 (p ::r) k=i0 r k:=by simp[i0,List.find?_cons,e]
theorem pU(k:κ):∀ kvs:List (κ×V),(kvs.any fun kv=>decide (kv.1=k))=(i0 kvs k).isSome
 |[]=>rfl
 | p ::r=>by
   rw[List.any_cons]
   by_cases e:p.1=k
   . simp only[pK e,decide_eq_true e,Bool.true_or,Option.isSome_some]
   . rw[o8 e,decide_eq_false e,Bool.false_or];exact pU k r
theorem kr(kvs:List (κ×V))(k:κ)(v:V):(putK kvs k v).length<=kvs.length+1:=by
 unfold putK;split
 . rw[List.length_map];omega
 . rw[List.length_append,List.length_cons,List.length_nil];omega
theorem zX{kvs:List (κ×V)}{k:κ}(v:V)(h:i0 kvs k=none):putK kvs k v=kvs++[(k,v)]:=by
 unfold putK;rw[pU,h];exact if_neg (by decide)
theorem aX.nZ{o:Option V}{u:Option Value}(r:aX o u):o.isSome=u.isSome:=by
 cases o with
 | none=>cases u with
   |none=>rfl
   |some _=>exact(show False from r).elim
 | some _=>cases u with
   |none=>exact(show False from r).elim
   |some _=>rfl
theorem aX.getD{o:Option V}{u:Option Value}{d:V}{d':Value}(r:aX o u)(rd:RelV d d'):RelV (o.getD d) (u.getD d'):=by
 cases o with
 | none=>cases u with
   |none=>exact rd
   |some _=>exact(show False from r).elim
 | some _=>cases u with
   |none=>exact(show False from r).elim
   |some _=>exact r
theorem KV.val{kvs:List (κ×V)}{vs:List (κ×Value)}(r:KV kvs vs)(k:κ):aX (i0 kvs k) (valueAt vs k):=by
 unfold KV at r
 induction r with
 |nil=>exact True.intro
 | @cons p q ps qs h t ih=>
   obtain⟨h1,h2⟩:=h
   by_cases e:p.1=k
   . have e':q.1=k:=h1.symm.trans e
     have b:valueAt (q ::qs) k=some q.2:=by simp[valueAt,List.find?_cons,e']
     rw[pK e,b];exact h2
   . have e':¬ q.1=k:=fun z=>e (h1.trans z)
     have b:valueAt (q ::qs) k=valueAt qs k:=by simp[valueAt,List.find?_cons,e']
     rw[o8 e,b];exact ih
theorem KV.any{kvs:List (κ×V)}{vs:List (κ×Value)}(r:KV kvs vs)(k:κ):(kvs.any fun kv=>decide (kv.1=k))=vs.any fun kv=>decide (kv.1=k):=by
 unfold KV at r
 induction r with
 |nil=>rfl
 |cons h t ih=>rw[List.any_cons,List.any_cons,ih,h.1]
theorem KV.Dp{kvs:List (κ×V)}{vs:List (κ×Value)}(r:KV kvs vs)(k:κ){y:V}{u:Value}(ry:RelV y u):
  KV (kvs.map fun kv=>if kv.1=k then(kv.1,y)else kv) (vs.map fun kv=>if kv.1=k then(kv.1,u)else kv):=by
 unfold KV at r ⊢
 induction r with
 |nil=>exact .nil
 | @cons p q ps qs h t ih=>
   rw[List.map_cons,List.map_cons];refine .cons ?_ ih;obtain⟨h1,h2⟩:=h
   by_cases e:p.1=k
   . rw[if_pos e,if_pos (h1.symm.trans e)];exact⟨h1,ry⟩
   . rw[if_neg e,if_neg (fun z=>e (h1.trans z))];exact⟨h1,h2⟩
theorem KV.put{kvs:List (κ×V)}{vs:List (κ×Value)}(r:KV kvs vs)(k:κ){y:V}{u:Value}(ry:RelV y u):KV (putK kvs k y) (stored vs k u):=by
 unfold putK stored;rw[r.any k]
 by_cases e:(vs.any fun kv=>decide (kv.1=k))=true
 . rw[if_pos e,if_pos e];exact r.Dp k ry
 . rw[if_neg e,if_neg e];exact Paired.snoc r ⟨rfl,ry⟩
theorem KV.keys{kvs:List (κ×V)}{vs:List (κ×Value)}(r:KV kvs vs):kvs.map (·.1)=vs.map (·.1):=by
 unfold KV at r
 induction r with
 |nil=>rfl
 |cons h t ih=>rw[List.map_cons,List.map_cons,ih,h.1]
theorem KV.length{kvs:List (κ×V)}{vs:List (κ×Value)}(r:KV kvs vs):kvs.length=vs.length:=Paired.length r
end
theorem uA{P:Program}{w:World}{k:Key}{u:Value}(r:RelV (kV k) u):(cL P w).is k u=true:=by
 cases k with
 |inl i=>obtain⟨t,e⟩:=(show ∃ t,u=Value.int i t from r);subst e;exact ue P w i t
 |inr x=>obtain⟨t,e⟩:=(show ∃ t,u=Value.str x t from r);subst e;exact tf P w x t
theorem qU{P:Program}{w:World}:∀{ks:List Key} {us:List Value},Vals (ks.map kV) us->ItemsAre (cL P w) ks us
 |[],_,r=>by rw[List.map_nil]at r;cases r;exact .nil
 | k ::ks,_,r=>by
   rw[List.map_cons]at r
   cases r with
   |cons h t=>exact .cons (uA h) (qU t)
abbrev KT(H:Hp):List (List Key×V)->List (List Key×Addr×Value)->Prop:=Paired fun p q=>p.1=q.1 /\ H q.2.1=some (.tup (p.1.map kV)) /\ RelV p.2 q.2.2
theorem KT.val{H:Hp}{kvs:List (List Key×V)}{xs:List (List Key×Addr×Value)}(r:KT H kvs xs)(k:List Key):aX (i0 kvs k) ((atKey xs k).map (·.2)):=by
 induction r with
 |nil=>exact True.intro
 | @cons p q ps qs h t ih=>
   obtain⟨h1,_,h2⟩:=h
   by_cases e:p.1=k
   . have e':q.1=k:=h1.symm.trans e
     have b:atKey (q ::qs) k=some q.2:=by simp[atKey,List.find?_cons,e']
     rw[pK e,b];exact h2
   . have e':¬ q.1=k:=fun z=>e (h1.trans z)
     have b:atKey (q ::qs) k=atKey qs k:=by simp[atKey,List.find?_cons,e']
     rw[o8 e,b];exact ih
theorem KT.Dp{H:Hp}{kvs:List (List Key×V)}{xs:List (List Key×Addr×Value)}(r:KT H kvs xs)(k:List Key){y:V}{u:Value}(ry:RelV y u):
  KT H (kvs.map fun kv=>if kv.1=k then(kv.1,y)else kv) (xs.map (putAt k u)):=by
 induction r with
 |nil=>exact .nil
 | @cons p q ps qs h t ih=>
   rw[List.map_cons,List.map_cons];refine .cons ?_ ih;obtain⟨h1,h2,h3⟩:=h;unfold putAt
   by_cases e:p.1=k
   . rw[if_pos e,if_pos (h1.symm.trans e)];exact⟨h1,h2,ry⟩
   . rw[if_neg e,if_neg (fun z=>e (h1.trans z))];exact⟨h1,h2,h3⟩
theorem KT.put{H:Hp}{kvs:List (List Key×V)}{xs:List (List Key×Addr×Value)}(r:KT H kvs xs)(k:List Key){b:Addr}{y:V}{u:Value}(hb:H b=some (.tup (k.map kV)))(ry:RelV y u):
  KT H (putK kvs k y) (storedH xs k b u):=by
 have e:(kvs.any fun kv=>decide (kv.1=k))=(atKey xs k).isSome:=by
  rw[pU,(r.val k).nZ,Option.isSome_map]
 unfold putK storedH;rw[e]
 by_cases q:(atKey xs k).isSome=true
 . rw[if_pos q,if_pos q];exact r.Dp k ry
 . rw[if_neg q,if_neg q];exact Paired.snoc r ⟨rfl,hb,ry⟩
theorem KT.keeps{H H':Hp}{kvs:List (List Key×V)}{xs:List (List Key×Addr×Value)}(r:KT H kvs xs)(ht:∀ b ys,H b=some (.tup ys)->H' b=some (.tup ys)):KT H' kvs xs:=
 Paired.Ep r fun _ _ z=>⟨z.1,ht _ _ z.2.1,z.2.2⟩
section
variable{P:Program}{w:World}{H:Hp}{h:Heap}{a:Addr}
theorem Cj{u:HO}(ok:HOk P w H h)(e:Rd H a u):dA P w H h a u:=e.ok ok
theorem vR{kvs:List (Key×V)}(ok:HOk P w H h)(e:Rd H a (.dK kvs)):kvs.length<=sizeLine /\ (a==sysModules)=false /\ ∃ vs,KV kvs vs /\ h.DictOf (cL P w) a vs:=
 show dA P w H h a (.dK kvs) from Cj ok e
theorem yt{kvs:List (Key×V)}(ok:HOk P w H h)(e:H a=some (.dK kvs)):kvs.length<=sizeLine /\ (a==sysModules)=false /\ ∃ vs,KV kvs vs /\ h.DictOf (cL P w) a vs:=vR ok (.inl e)
theorem rD{ks:List Key}(ok:HOk P w H h)(e:H a=some (.tup (ks.map kV))):(tupleKind (cL P w)).is h ks a:=by
 obtain⟨_,its,r,o,h1,h2,n,h3⟩:=(show dA P w H h a (.tup (ks.map kV)) from ok a _ e)
 exact⟨o,its.toArray,n,h1,h2,h3,by simpa using qU r⟩
theorem wz{kvs:List (List Key×V)}(ok:HOk P w H h)(e:Rd H a (.dT kvs)):kvs.length<=sizeLine /\ (a==sysModules)=false /\
  ∃ xs,KT H kvs xs /\ h.DictOfH (tupleKind (cL P w)) a xs:=by
 obtain⟨z,y,xs,r,o,es,ep,h1,h2,h3,h4,h5⟩:=(show dA P w H h a (.dT kvs) from Cj ok e)
 refine⟨z,y,xs,r,o,es,ep,h1,h2,h3,h4,fun x hx=>?_,h5⟩
 have all:∀{l:List (List Key×V)} {m:List (List Key×Addr×Value)},KT H l m->∀ x∈m,(tupleKind (cL P w)).is h x.1 x.2.1:=by
  intro l m q
  induction q with
  |nil=>intro x hx;exact nomatch hx
  | @cons p q ps qs hq t ih=>
    intro x hx
    rcases List.mem_cons.mp hx with e|hx
    . subst e;exact rD ok (by rw[<- hq.1];exact hq.2.1)
    . exact ih x hx
 exact all r x hx
theorem FH{kvs:List (List Key×V)}(ok:HOk P w H h)(e:H a=some (.dT kvs)):kvs.length<=sizeLine /\ (a==sysModules)=false /\
  ∃ xs,KT H kvs xs /\ h.DictOfH (tupleKind (cL P w)) a xs:=wz ok (.inl e)
end
noncomputable def rE(H:Hp)(a:Addr)(y:V)(r:Option V):Prop:=
 (∃ kvs k,Rd H a (.dK kvs) /\ y=kV k /\ r=i0 kvs k) \/ ∃ kvs k b,Rd H a (.dT kvs) /\ y=.ref b /\ H b=some (.tup (k.map kV)) /\ r=i0 kvs k
noncomputable def Am(H:Hp)(a:Addr)(y v:V)(H':Hp):Prop:=
 (∃ kvs k,H a=some (.dK kvs) /\ y=kV k /\ kvs.length<sizeLine /\ H'=upd H a (.dK (putK kvs k v))) \/
 ∃ kvs k b,H a=some (.dT kvs) /\ y=.ref b /\ H b=some (.tup (k.map kV)) /\ kvs.length<sizeLine /\ H'=upd H a (.dT (putK kvs k v))
theorem rE.k{H:Hp}{a:Addr}{kvs:List (Key×V)}{k:Key}(e:H a=some (.dK kvs)):rE H a (kV k) (i0 kvs k):=.inl ⟨kvs,k,.inl e,rfl,rfl⟩
theorem Am.k{H:Hp}{a:Addr}{kvs:List (Key×V)}{k:Key}{v:V}(e:H a=some (.dK kvs))(hl:kvs.length<sizeLine):Am H a (kV k) v (upd H a (.dK (putK kvs k v))):=.inl ⟨kvs,k,e,rfl,hl,rfl⟩
section
variable{X:Cx}{pins:List (Addr×Obj)}{σ:St}{H:Hp}{s:Shared}{a:Addr}{y v:V}{u r:Value}{o:Option V}{A:Around}{E:Value->Shared->Prop}
theorem Inv.big(I:Inv X pins σ H s):sysModules<s.heap.objs.size:=by
 have h:mainGlobals<s.heap.objs.size:=(I.mod.glob.keeps I.bk).lt
 exact Nat.lt_trans (by decide) h
theorem xH{Q:Value->Shared->Prop}(hu:A.units+1<cLine)(I:Inv X pins σ H s)(g:rE H a y (some v))(ry:RelV y u)(h:∀ w' s',Inv X pins σ H s'->RelV v w'->Q w' s'):
  wpAny (model X.prog X.w) A (getItem (.ref a) u) Q E s:=by
 rcases g with⟨kvs,k,e,ey,l⟩|⟨kvs,k,b,e,ey,eb,l⟩
 . subst ey;obtain⟨z,hd,vs,rel,dd⟩:=vR I.hok e;obtain⟨w',hw,rw'⟩:=aX.some_of (v:=v) (o:=valueAt vs k) (by rw[l];exact rel.val k);exact wpAny_getItem_of (uA ry) dd.mapOf hw (h w' _ (I.tok _) rw')
 . subst ey
   cases(show u=Value.ref b from ry)
   obtain⟨z,hd,xs,rel,dd⟩:=wz I.hok e;obtain⟨w',hw,rw'⟩:=aX.some_of (v:=v) (o:=(atKey xs k).map (·.2)) (by rw[l];exact rel.val k);obtain⟨p,hp,hp2⟩:=Option.map_eq_some_iff.mp hw;refine wpAny_getItem_heap (tupleKind_room_in1 hu) (rD I.hok eb) dd hp ?_;rw[hp2];exact h w' _ (I.tok _) rw'
theorem Hy{Q:Value->Shared->Prop}(hu:A.units+1<cLine)(I:Inv X pins σ H s)(g:rE H a y o)(ry:RelV y u)(h:∀ s',Inv X pins σ H s'->Q (.bool o.isSome) s'):
  wpAny (model X.prog X.w) A (compareOp .In u (.ref a)) Q E s:=by
 rcases g with⟨kvs,k,e,ey,l⟩|⟨kvs,k,b,e,ey,eb,l⟩
 . subst ey;obtain⟨z,hd,vs,rel,dd⟩:=vR I.hok e;refine wpAny_in_of (uA ry) hd dd.mapOf ?_;rw[<- (rel.val k).nZ,<- l];exact h _ (I.tok _)
 . subst ey
   cases(show u=Value.ref b from ry)
   obtain⟨z,hd,xs,rel,dd⟩:=wz I.hok e;refine wpAny_in_heap (tupleKind_room_in1 hu) (rD I.hok eb) hd dd ?_;have q:=(rel.val k).nZ;rw[Option.isSome_map]at q;rw[<- q,<- l];exact h _ (I.tok _)
theorem sj{h':Heap}{t':Nat}{ob:HO}(I:Inv X pins σ H s)(mu:Mut (H a))(hs:Heap.SameBut a s.heap h')(he:∃ q,h'.get? a=some q)(new:dA X.prog X.w (upd H a ob) h' a ob):
  Inv X pins σ (upd H a ob) { s with heap:=h',toks:=t' }:=
 I.write (x:=a) (e:=a) mu (.inl rfl) (fun b q hb z=>(hs.2 b hb).trans z) he new
theorem yp{P:Program}{w:World}{H':Hp}{h':Heap}{kvs:List (Key×V)}{vs:List (Key×Value)}(z:kvs.length<=sizeLine)(hd:(a==sysModules)=false)(rel:KV kvs vs)(dd:h'.DictOf (cL P w) a vs):
  dA P w H' h' a (.dK kvs):=⟨z,hd,vs,rel,dd⟩
theorem xS{H':Hp}{Q:Unit->Shared->Prop}(hu:A.units+1<cLine)(I:Inv X pins σ H s)(g:Am H a y v H')(ry:RelV y u)(rv:RelV v r)(h:∀ s',Inv X pins σ H' s'->Q () s'):
  wpAny (model X.prog X.w) A (setItem (.ref a) u r) Q E s:=by
 rcases g with⟨kvs,k,e,ey,l,eH⟩|⟨kvs,k,b,e,ey,eb,l,eH⟩
 . subst ey eH;obtain⟨z,hd,vs,rel,dd⟩:=yt I.hok e
   have hz:vs.length<=sizeLine:=by rw[<- rel.length];exact z
   have hl:(putK kvs k v).length<=sizeLine:=by have:=kr kvs k v;omega
   refine wpAny_setItem_pairs (hsz:=hz) (uA ry) dd fun h' dd' hs=>h _ ?_
   have he:∃ q,h'.get? a=some q:=let ⟨q,_,_,hq,_⟩:=dd';⟨q,hq⟩
   exact sj I (by rw[e];exact True.intro) hs he (yp hl hd (rel.put k rv) dd')
 . subst ey eH
   cases(show u=Value.ref b from ry)
   obtain⟨z,hd,xs,rel,dd⟩:=FH I.hok e
   have hz:xs.length<=sizeLine:=by rw[<- Paired.length rel];exact z
   have hl:(putK kvs k v).length<=sizeLine:=by have:=kr kvs k v;omega
   refine wpAny_setItem_heap (hsz:=hz) (tupleKind_room_in1 hu) (rD I.hok eb) dd fun h' dd' hs=>h _ ?_
   obtain⟨q,es,ep,hq,h2,h3,h4,_,h5⟩:=dd';refine sj I (by rw[e];exact True.intro) hs ⟨q,hq⟩ ⟨hl,hd,_,(rel.put k eb rv).keeps fun c ys ec=>?_,q,es,ep,hq,h2,h3,h4,h5⟩;rw[bj (FY ec e (fun z=>nomatch z))];exact ec
end
noncomputable def Dl(i:Expr):Prop:=∀ ov iv,subscripted i false ov iv=operate [ov,iv] (getItem ov iv)
theorem Bw{prog:Program}{w:World}{A:Around}{E:Value->Shared->Prop}{s:Shared}{env:Env}{value slice:Expr}{pos:Pos}{T id:String}{Q:Value->Shared->Prop}
  (hl:typeLookup (.type T) "__getitem__" = pure (some (.builtin id))) (hs:Dl slice)
  (h:wpAny (model prog w) A (eval value env) (fun o s₁=>wpAny (model prog w) A (eval slice env) (fun i s₂=>s₂.TypeIs o T /\ wpAny (model prog w) A (getItem o i) Q E s₂) E s₁) E s):
  wpAny (model prog w) A (eval (.Subscript value slice pos) env) Q E s:=by
 refine Subscript_ (wpAny_mono h (fun o s₁ h₁=>wpAny_mono h₁ (fun i s₂ h₂=>?_) fun _ _ x=>x) fun _ _ x=>x);obtain⟨hT,h₂⟩:=h₂;unfold subscriptTail;refine wpAny_bind ?_;rw[getitemInPython_of_ne hT.not_modules];refine wpAny_bind (wpAny_specialOf hT hl ?_)
 have fin:wpAny (model prog w) A (subscripted slice false o i) (fun r s₃=>wpAny (model prog w) A (letTemporaryGo value o r >>= fun _=>pure r) Q E s₃) E s₂:=by
  rw[hs o i];exact wpAny_operating (wpAny_mono h₂ (fun r s₃ h₃=>wpAny_bind (wpAny_letTemporaryGo (wpAny_pure h₃))) fun _ _ x=>x)
 first
  |exact wpAny_pure (wpAny_bind fin)
  |exact wpAny_bind (wpAny_pure (wpAny_bind fin))
  |exact wpAny_bind fin
theorem uE{X:Cx}{pins:List (Addr×Obj)}{σ:St}{H:Hp}{s:Shared}{a:Addr}{y:V}{o:Option V}(I:Inv X pins σ H s)(g:rE H a y o):s.TypeIs (.ref a) "dict":=by
 rcases g with⟨kvs,k,e,_,_⟩|⟨kvs,k,b,e,_,_,_⟩
 . obtain⟨_,_,vs,_,dd⟩:=vR I.hok e;exact dd.typeIs
 . obtain⟨_,_,xs,_,dd⟩:=wz I.hok e;exact dd.typeIs
noncomputable def zQ(td ty:TE):TE:=fun σ H Q=>td σ H fun x H1=>ty σ H1 fun y H2=>∃ a v,x=.ref a /\ rE H2 a y (some v) /\ Q v H2
noncomputable def D1(ty td:TE):TE:=fun σ H Q=>ty σ H fun y H1=>td σ H1 fun x H2=>∃ a o,x=.ref a /\ rE H2 a y o /\ Q (.bl o.isSome) H2
noncomputable def zB(td ty tv:TE):TS:=fun D σ H=>tv σ H fun v H1=>td σ H1 fun x H2=>ty σ H2 fun y H3=>∃ a H4,x=.ref a /\ Am H3 a y v H4 /\ D.nx σ H4
section
variable{X:Cx}{o i e value:Expr}{pos pos' tpos:Pos}{td ty tv:TE}
theorem Ao(hu:X.A.units+1<cLine)(ho:PE X o td)(hi:PE X i ty)(hs:Dl i):PE X (.Subscript o i pos) (zQ td ty):=by
 intro pins s σ H Q I h;refine Bw PySem.F.slot_dict_getitem.lookup hs (thn (ho pins s σ H _ I h) fun u s1 ⟨x,H1,I1,rx,q1⟩=>thn (hi pins s1 σ H1 _ I1 q1) fun iv s2 ⟨y,H2,I2,ry,a,v,ex,g,q2⟩=>?_);subst ex
 obtain rfl:u=Value.ref a:=rx
 exact⟨uE I2 g,xH hu I2 g ry fun w' s3 I3 rw'=>⟨v,H2,I3,rw',q2⟩⟩
theorem CU(hu:X.A.units+1<cLine)(hi:PE X i ty)(ho:PE X o td):PC X .In i o (D1 ty td):=by
 intro pins s σ H Q I h
 refine thn (hi pins s σ H _ I h) fun iv s1 ⟨y,H1,I1,ry,q1⟩=>thn (ho pins s1 σ H1 _ I1 q1) fun u s2 ⟨x,H2,I2,rx,a,ov,ex,g,q2⟩=>?_
 subst ex
 obtain rfl:u=Value.ref a:=rx
 exact Hy hu I2 g ry fun s3 I3=>⟨.bl ov.isSome,H2,I3,rfl,q2⟩
theorem BC(hu:X.A.units+1<cLine)(ho:PE X o td)(hi:PE X i ty)(hv:PE X value tv)(hs:swapsWith value (some (.Subscript o i pos')) pos.line X.env=pure false):
  PS X (.Assign [.Subscript o i pos'] value pos) (zB td ty tv):=by
 intro pins s σ H D I h;refine wpAny_Assign_Subscript (thn (hv pins s σ H _ I h) fun r s1 ⟨v,H1,I1,rv,q1⟩=>thn (ho pins s1 σ H1 _ I1 q1) fun u s2 ⟨x,H2,I2,rx,q2⟩=>thn (hi pins s2 σ H2 _ I2 q2) fun iv s3 ⟨y,H3,I3,ry,a,H4,ex,g,q3⟩=>?_) hs;subst ex
 obtain rfl:u=Value.ref a:=rx
 exact xS hu I3 g ry rv fun s4 I4=>⟨σ,H4,I4,q3⟩
end
theorem tW{P:Program}{w:World}{H:Hp}(h:Heap)(hb:sysModules<h.objs.size):dA P w H (h.push { cls:=.type "dict",data:=.dict #[] }) h.objs.size (.dK []):=
 ⟨Nat.zero_le _,beq_eq_false_iff_ne.mpr (Ne.symm (Nat.ne_of_lt hb)),[],.nil,Heap.DictOf.new h⟩
noncomputable def uX:TE:=fun _ H Q=>∀ p,H p=none->Q (.ref p) (upd H p (.dK []))
section
variable{X:Cx}{pos:Pos}
theorem ze:PE X (.Dict [] [] pos) uX:=fun pins s σ H Q I h=>
 wpAny_Dict_empty ⟨.ref s.heap.objs.size,_,I.laid (a:=s.heap.objs.size) (o:=.dK []) (t':=s.toks) (fun _ _ q=>Heap.get?_push_of_some _ q) (Nat.le_refl _) (tW s.heap I.big),rfl,h _ (I.hok.fresh (Nat.le_refl _))⟩
end
noncomputable def r6:List (TE×TE)->St->Hp->(List (V×V)->Hp->Prop)->Prop
 |[],_,H,Q=>Q [] H
 |(tk,tv) ::r,σ,H,Q=>tk σ H fun x H1=>tv σ H1 fun y H2=>r6 r σ H2 fun ps H3=>Q ((x,y) ::ps) H3
abbrev VV:List (V×V)->List (Value×Value)->Prop:=Paired fun p q=>RelV p.1 q.1 /\ RelV p.2 q.2
noncomputable def PPs(X:Cx)(pos:Pos)(keys:List (Option Expr))(values:List Expr)(trs:List (TE×TE)):Prop:=
 ∀(pins:List (Addr×Obj)) (s:Shared) (σ:St) (H:Hp) (Q:List (V×V)->Hp->Prop),Inv X pins σ H s->r6 trs σ H Q ->
   wpAny (model X.prog X.w) X.A (evalPairs (pairTrees keys values X.env pos)) (fun vs s'=>∃ ps H',Inv X pins σ H' s' /\ VV ps vs /\ Q ps H') X.xe s
theorem Bh{X:Cx}{pos:Pos}:PPs X pos [] [] []:=fun pins s σ H Q I h=>pairTrees_nil_walk ⟨[],H,I,.nil,h⟩
theorem zG{X:Cx}{pos:Pos}{k v:Expr}{ks:List (Option Expr)}{vs:List Expr}{tk tv:TE}{trs:List (TE×TE)}(hk:PE X k tk)(hv:PE X v tv)(hr:PPs X pos ks vs trs):
  PPs X pos (some k ::ks) (v ::vs) ((tk,tv) ::trs):=fun pins s σ H Q I h=>
 pairTrees_cons_walk (thn (hk pins s σ H _ I h) fun u s1 ⟨x,H1,I1,rx,q1⟩=>thn (hv pins s1 σ H1 _ I1 q1) fun w2 s2 ⟨y,H2,I2,ry,q2⟩=>
  thn (hr pins s2 σ H2 _ I2 q2) fun ws s3 ⟨ps,H3,I3,rel,q3⟩=>⟨(x,y) ::ps,H3,I3,.cons ⟨rx,ry⟩ rel,q3⟩)
noncomputable def kf(kvs more:List (Key×V)):List (Key×V):=more.foldl (fun acc kv=>putK acc kv.1 kv.2) kvs
theorem KV.merge:∀{more:List (Key×V)} {rs:List (Key×Value)} {kvs:List (Key×V)} {vs:List (Key×Value)},KV more rs->KV kvs vs->KV (kf kvs more) (merged vs rs):=by
 intro more rs kvs vs r;unfold KV at r
 induction r generalizing kvs vs with
 |nil=>intro q;exact q
 | @cons p q ps qs h t ih=>
   intro r0
   have e:KV (putK kvs p.1 p.2) (stored vs q.1 q.2):=by
    have:=r0.put p.1 h.2;rw[<- h.1];exact this
   exact ih e
theorem lS:∀(more kvs:List (Key×V)),(kf kvs more).length<=kvs.length+more.length
 |[],kvs=>by show kvs.length<=kvs.length+0;omega
 | p ::r,kvs=>by
   have h1:=lS r (putK kvs p.1 p.2);have h2:=kr kvs p.1 p.2
   show(kf (putK kvs p.1 p.2) r).length<=_
   rw[List.length_cons];omega
theorem p5{P:Program}{w:World}:∀{kvs:List (Key×V)} {ws:List (Value×Value)},VV (kvs.map fun kv=>(kV kv.1,kv.2)) ws->∃ rs,Carries (cL P w) ws rs /\ KV kvs rs
 |[],_,r=>by rw[List.map_nil]at r;cases r;exact⟨[],True.intro,.nil⟩
 | p ::kvs,_,r=>by
   rw[List.map_cons]at r
   cases r with
   | @cons a b as bs h t=>
     obtain⟨rs,c,q⟩:=p5 (P:=P) (w:=w) t;obtain⟨b1,b2⟩:=b
     exact⟨(p.1,b2) ::rs,⟨uA h.1,rfl,c⟩,.cons ⟨rfl,h.2⟩ q⟩
noncomputable def Ac(trs:List (TE×TE)):TE:=fun σ H Q=>∀ p,H p=none->r6 trs σ (upd H p (.dK [])) fun ps H2=>H2 p=some (.dK []) /\ ∃ kvs:List (Key×V),ps=kvs.map (fun kv=>(kV kv.1,kv.2)) /\ kvs.length<=15 /\ Q (.ref p) (upd H2 p (.dK (kf [] kvs)))
theorem AR{X:Cx}{pos:Pos}{keys:List (Option Expr)}{values:List Expr}{trs:List (TE×TE)}(h:PPs X pos keys values trs)(hall:keys.all (·.isSome)=true)(hl:keys.length=values.length)(h0:keys≠[])
  (h15:keys.length<=15):PE X (.Dict keys values pos) (Ac trs):=by
 intro pins s σ H Q I q;have hn:=I.hok.fresh (Nat.le_refl s.heap.objs.size);have I1:=I.laid (a:=s.heap.objs.size) (o:=.dK []) (h':=s.heap.push { cls:=.type "dict",data:=.dict #[] }) (t':=s.toks) (fun _ _ q=>Heap.get?_push_of_some _ q) (Nat.le_refl _) (tW s.heap I.big);refine wpAny_Dict_walk (knd:=cL X.prog X.w) hall hl h0 h15 (thn (h pins _ σ _ _ I1 (q _ hn)) fun ws s2 ⟨ps,H2,I2,rel,e,kvs,ep,lk,q2⟩=>?_);subst ep;obtain⟨rs,c,rk⟩:=p5 (P:=X.prog) (w:=X.w) rel;obtain⟨z,hd,vs0,r0,dd⟩:=yt I2.hok e;cases r0
 refine⟨rs,c,dd,fun h' dd' hs=>⟨.ref s.heap.objs.size,_,?_,rfl,q2⟩⟩
 have hz:(kf [] kvs).length<=sizeLine:=by
  have h1:=lS kvs [];rw[List.length_nil]at h1;rw[sizeLine_eq];omega
 have he:∃ q,h'.get? s.heap.objs.size=some q:=let ⟨q,_,_,hq,_⟩:=dd';⟨q,hq⟩
 exact sj I2 (by rw[e];exact True.intro) hs he (yp hz hd (rk.merge .nil) dd')
end L2
set_option maxHeartbeats 4000000
namespace L2.E
open PySem PySem.Spec PyProof.Rows
noncomputable def Dk(a C:Addr)(dx:Option Addr)(h:Heap):Prop:=∃ o vs,h.get? a=some o /\ o.cls=.ref C /\ o.dict=dx /\ o.data=.fields vs /\ vs.size=6
noncomputable def TbO(T:Addr)(h:Heap):Prop:=∃ o ts,h.get? T=some o /\ o.data=.fields ts /\ 3<ts.size
noncomputable abbrev tJ(a C:Addr)(dx:Option Addr):HO:=.ext (Dk a C dx)
noncomputable abbrev oTb(T:Addr):HO:=.ext (TbO T)
theorem Ew(x:Dk a C dx h):dA P w H h a (tJ a C dx):=by
 refine⟨x,let ⟨o,_,e,_⟩:=x;⟨o,e⟩,fun h1 h2 p k=>?_⟩
 obtain⟨o,vs,e,r⟩:=p
 exact⟨o,vs,k o e,r⟩
theorem B7(x:TbO T h):dA P w H h T (oTb T):=by
 refine⟨x,let ⟨o,_,e,_⟩:=x;⟨o,e⟩,fun h1 h2 p k=>?_⟩
 obtain⟨o,vs,e,r⟩:=p
 exact⟨o,vs,k o e,r⟩
theorem Aj(h:H a=some o):upd H a o=H:=by
 funext b
 unfold upd;split
 . rename_i e;rw[e,h]
 . rfl
structure Fly(H:Hp)(h:Heap)(a C:Addr)(dx:Option Addr):Prop where
 exc:H a=some (tJ a C dx)
 tb:∃ o vs,h.get? a=some o /\ o.data=.fields vs /\ (vs[1]?=some Value.none \/ ∃ T,vs[1]?=some (.ref T) /\ H T=some (oTb T) /\ T≠a)
structure xa(H:Hp)(h:Heap)(a C:Addr)(dx:Option Addr):Prop where
 exc:H a=some (tJ a C dx)
 tb:∃ o vs T,h.get? a=some o /\ o.data=.fields vs /\ vs[1]?=some (.ref T) /\ H T=some (oTb T) /\ T≠a
theorem xa.fly(F:xa H h a C dx):Fly H h a C dx:=
 let ⟨o,vs,T,e1,e2,e3,e4,e5⟩:=F.tb
 ⟨F.exc,o,vs,e1,e2,.inr ⟨T,e3,e4,e5⟩⟩
section
variable{X:Cx}{pins:List (Addr×Obj)}{σ:St}{H:Hp}{s:Shared}{a C:Addr}{dx:Option Addr}
theorem zv(I:Inv X pins σ H s)(k:Heap.SlotsOnly (frs X.stack) s.heap h₁):Un (frs X.stack) [] H H s.heap h₁ where
 keep:=fun b o e _ hb _=>(k.2.1 b hb).trans e
 slot:=fun b o e _ _ _=>k.2.2 b o e
 free:=fun _ _ _ n _=>n
 there:=fun b o e _=>let ⟨_,q⟩:=k.2.2 b o e;⟨_,q⟩
 tups:=fun _ _ q=>q
 frzs:=fun _ _ _ q=>q
 tbls:=fun _ ps q=>⟨#[],by rw[q];simp⟩
theorem xZ(I:Inv X pins σ H s)(k:Heap.SlotsOnly (frs X.stack) s.heap h₁):HOk X.prog X.w H h₁:=fun b o e=>by
 have nf:∀ c u,H c=some u->c∉frs X.stack:=fun c u q z=>by rw[I.sq c z]at q;cases q
 refine(I.hok b o e).oI (fun c v hc q=>(k.2.1 c ?_).trans q) (fun _ q=>q) fun _ _ q=>q
 rcases hc with z|z
 . rw[z];exact nf b o e
 . exact nf c _ z
theorem AZ(I:Inv X pins σ H s)(e:H a=some (tJ a C dx)):
  Inv X pins σ H { s with heap:=s.heap.update a (Obj.mapFields (·.setIfInBounds i v)) }:=by
 obtain⟨⟨o,vs,ho,hc,hd,hf,hz⟩,_,_⟩:=I.hok a _ e;have hs:=Heap.get?_update_self (Obj.mapFields (·.setIfInBounds i v)) ho (Obj.isFreed_of_fields (Obj.data_mapFields hf _))
 have q:=I.write (x:=a) (e:=a) (o:=tJ a C dx) (t':=s.toks) (h':=s.heap.update a (Obj.mapFields (·.setIfInBounds i v))) (by rw[e];trivial) (.inl rfl)
  (fun b u hb q=>(Heap.get?_update_other _ _ (Ne.symm hb)).trans q) ⟨_,hs⟩ (Ew ⟨_,_,hs,by rw[Obj.cls_mapFields];exact hc,by obtain⟨c,d,dt,sl⟩:=o;cases dt<;>exact hd,Obj.data_mapFields hf _,by simpa using hz⟩)
 rw[Aj e]at q;exact q
theorem zN(I:Inv X pins σ H s)(e:H T=some (oTb T)):
  Inv X pins σ H { s with heap:=s.heap.update T (Obj.mapFields (·.setIfInBounds i v)) }:=by
 obtain⟨⟨o,vs,ho,hf,hz⟩,_,_⟩:=I.hok T _ e;have hs:=Heap.get?_update_self (Obj.mapFields (·.setIfInBounds i v)) ho (Obj.isFreed_of_fields (Obj.data_mapFields hf _))
 have q:=I.write (x:=T) (e:=T) (o:=oTb T) (t':=s.toks) (h':=s.heap.update T (Obj.mapFields (·.setIfInBounds i v))) (by rw[e];trivial) (.inl rfl)
  (fun b u hb q=>(Heap.get?_update_other _ _ (Ne.symm hb)).trans q) ⟨_,hs⟩ (B7 ⟨_,_,hs,Obj.data_mapFields hf _,by simpa using hz⟩)
 rw[Aj e]at q;exact q
theorem uw{Q:Unit->Shared->Prop}{E:Value->Shared->Prop}(I:Inv X pins σ H s)(hst:X.stack=X.env ::X.outer)(hf:X.env.frame=some L)(e:H a=some (tJ a C dx))
  (h:∀ s' H',Inv X pins σ H' s'->ay H H'->xa H' s'.heap a C dx->Q () s'):
  wpAny (model X.prog X.w) X.A (do let fr <- frameOf X.env;let pl <- entryPlaceOf L had;let b <- EntryCells.newEntry head fr .none (rawInt L) .none pl;setField (.ref a) 1 b) Q E s:=by
 have hfr:X.A.frames=some (X.env ::X.outer):=by rw[<- hst];exact I.ok.frames
 have hl:s.heap.FunFrames X.base (X.env ::X.outer):=by rw[<- hst];exact I.stack
 refine wpAny_bind (wpAny_frameOf_fun hfr hl hf fun h₁ k₁=>?_)
 have k₁':Heap.SlotsOnly (frs X.stack) s.heap h₁:=by rw[hst];exact k₁
 have I₁:=I.call (g':=s.gens) (t':=s.toks) (d':=s.drawn) (ch:=[]) (zv I k₁') (xZ I k₁') I.bare (fun b z=>absurd z (by simp));refine wpAny_bind (wpAny_entryPlaceOf fun pl hpl=>?_);unfold EntryCells.newEntry newFields;refine wpAny_bind (wpAny_newObj_type ?_ (hpl.sizeOk5 _ _ _ _ _))
 have big:3<([head,.ref L,.none,rawInt L,.none]++(if pl.isEmpty then List.replicate 6 Value.none else pl)).toArray.size:=by
  rw[List.size_toArray,List.length_append];show 3<5+_;omega
 have new:=Heap.get?_push_size h₁ (o:={ cls:=.type "traceback",dict:=none,data:=.fields ([head,.ref L,.none,rawInt L,.none]++(if pl.isEmpty then List.replicate 6 Value.none else pl)).toArray }) rfl
 have fr:H h₁.objs.size=none:=I₁.hok.fresh (Nat.le_refl _)
 have ne:h₁.objs.size≠a:=fun z=>by rw[z,e]at fr;cases fr
 have I₂:=I₁.laid (a:=h₁.objs.size) (o:=oTb h₁.objs.size) (t':=s.toks) (fun b u q=>Heap.get?_push_of_some _ q) (Nat.le_refl _) (B7 ⟨_,_,new,rfl,big⟩)
 have g:ay H (upd H h₁.objs.size (oTb h₁.objs.size)):=fun b u q=>by rw[bj (cB q fr)];exact q
 obtain⟨⟨o,vs,ho,hc,hd,hv,hz⟩,_,_⟩:=I₂.hok a _ (g _ _ e);refine wpAny_setField ho hv (by omega) ?_;refine h _ _ (AZ I₂ (g _ _ e)) g ⟨g _ _ e,_,_,h₁.objs.size,Heap.get?_update_self _ ho (Obj.isFreed_of_fields (Obj.data_mapFields hv _)),Obj.data_mapFields hv _,by simp[hz],aY,ne⟩
theorem Bc{Q:Unit->Shared->Prop}{E:Value->Shared->Prop}(I:Inv X pins σ H s)(hst:X.stack=X.env ::X.outer /\ X.env.frame=some X.env.locals)(F:Fly H s.heap a C dx)
  (h:∀ s' H',Inv X pins σ H' s'->ay H H'->xa H' s'.heap a C dx->Q () s'):wpAny (model X.prog X.w) X.A (noteFrame (.ref a) X.env) Q E s:=by
 obtain⟨o,vs,ho,hv,hw⟩:=F.tb;unfold noteFrame;simp only[hst.2]
 rcases hw with h1|⟨T,h1,hT,ne⟩
 . refine wpAny_bind (wpAny_field ho hv h1 ?_);rw[if_neg (by decide)];exact uw I hst.1 hst.2 F.exc h
 . obtain⟨⟨oT,ts,hoT,hdT,hz⟩,_,_⟩:=I.hok T _ hT;refine wpAny_bind (wpAny_field ho hv h1 ?_);rw[if_pos (show(Value.ref T != Value.none)=true from by simp)]
   have h3:ts[3]?=some ts[3]:=by simp[hz]
   refine wpAny_bind (wpAny_field hoT hdT h3 ?_)
   by_cases c:(ts[3]==rawInt X.env.locals)=true
   . rw[if_pos c];exact wpAny_pure (h s H I (ay.refl H) ⟨F.exc,o,vs,T,ho,hv,h1,hT,ne⟩)
   . rw[if_neg c];refine wpAny_bind (wpAny_setField hoT hdT hz ?_);exact uw (zN I hT) hst.1 hst.2 F.exc h
theorem xu{Q:Unit->Shared->Prop}{E:Value->Shared->Prop}(I:Inv X pins σ H s)(F:xa H s.heap a C dx)
  (h:∀ s',Inv X pins σ H s'->xa H s'.heap a C dx->Q () s'):wpAny (model X.prog X.w) X.A (setFlight (.ref a) x) Q E s:=by
 obtain⟨o,vs,T,ho,hv,h1,hT,ne⟩:=F.tb;unfold setFlight;obtain⟨⟨oT,ts,hoT,hdT,hz⟩,_,_⟩:=I.hok T _ hT;refine wpAny_bind (wpAny_field ho hv h1 ?_);rw[if_pos (show(Value.ref T != Value.none)=true from by simp)];refine wpAny_setField hoT hdT hz ?_;exact h _ (zN I hT) ⟨F.exc,o,vs,T,(Heap.get?_update_other _ _ ne).trans ho,hv,h1,hT,ne⟩
end
noncomputable def CXE(P:Program)(w:World):CXT:=fun outer H s E e s'=>∃ a C dx H',e=.ref a /\ s'.os=s.os /\ AllBare s'.gens /\ Un (frs outer) [] H H' s.heap s'.heap /\ HOk P w H' s'.heap /\ Fly H' s'.heap a C dx /\ E (.ref C) (some a) H'
abbrev XW:=Value->Option Addr->St->Hp->Prop
noncomputable def Thr(X:Cx)(W:XW):Prop:=∀(pins:List (Addr×Obj)) (σ:St) (H:Hp) (s:Shared) (a C:Addr) (dx:Option Addr),Inv X pins σ H s->Fly H s.heap a C dx->W (.ref C) (some a) σ H->X.xe (.ref a) s
section
variable{CX:CXT}{P:Program}{w:World}{K:PySem.W.Frag}{mg:Str->Option Value}{base:Heap}{N:List Str}{qual:Str}{scope:Scope}{f:Addr}{cd:Value}{A:Around}{outer:List Env}{s₀:Shared}{H₀:Hp}{E:XK}
theorem aS:Thr (nF (CXE P w) P w K mg base N qual scope f cd A outer s₀ H₀ E) (fun C a _ H=>∀ H',ay H H'->E C a H'):=by
 intro pins σ H s a C dx I F hw;show wpAny _ _ (leaving _ _) _ _ s;unfold leaving;refine wpAny_bind (Bc I ⟨rfl,rfl⟩ F fun s1 H1 I1 g1 F1=>?_)
 refine xu I1 F1 fun s2 I2 F2=>?_
 exact⟨a,C,dx,H1,rfl,I2.os,I2.bare,I2.base,I2.hok,F2.fly,hw H1 g1⟩
theorem eE:PassesOwn (model P w) (nF (CXE P w) P w K mg base N qual scope f cd A outer s₀ H₀ E).A (nF (CXE P w) P w K mg base N qual scope f cd A outer s₀ H₀ E).env (nF (CXE P w) P w K mg base N qual scope f cd A outer s₀ H₀ E).xe:=by
 show PassesOwn (model P w) (A.deeper (envOfC qual scope s₀.heap.objs.size f cd)) (envOfC qual scope s₀.heap.objs.size f cd) (fun e s'=>wpAny (model P w) (A.deeper (envOfC qual scope s₀.heap.objs.size f cd)) (leaving (envOfC qual scope s₀.heap.objs.size f cd) e) (fun _ s''=>CXE P w outer H₀ s₀ E e s'') (fun e' s''=>CXE P w outer H₀ s₀ E e' s'') s')
 passes_own
end
section
variable{X:Cx}{k:Nat}{f:Addr}{fd:FuncData}{ps:List Str}{sp:Sp}{dvs:List V}{ds:List Value}{W:XW}{x m:Str}{p pos apos:Pos}{e o:Expr}{es:List Expr}{ta:TE}{t:TA}
noncomputable def pZ(sp:Sp)(dvs:List V)(W:XW)(t:TA):TE:=fun σ H Q=>t σ H fun vs H1=>sp (vs++dvs) H1 Q fun C a H'=>W C a σ H'
theorem A9{pins:List (Addr×Obj)}(F:cT X.prog X.w X.K X.mg X.base (CXE X.prog X.w) k f fd ps sp)(hr:hJ k X.A)(hb:Binds X.K fd ps ds)(hd:Vals dvs ds)(hx:Thr X W)
  (I:Inv X pins σ H s) (r:Vals vs us) (h:sp (vs++dvs) H Q fun C a H'=>W C a σ H'):wpAny (model X.prog X.w) X.A (call (.ref f) us) (EP X pins σ Q) X.xe s:=by
 have r2:Vals (vs++dvs) (us++ds):=r.append hd
 have hl:(us++ds).length=ps.length:=by rw[<- r2.length];exact F.len _ _ _ _ h
 refine wpAny_call (codeAny_mono (F.run X.A X.stack s H ⟨us,[]⟩ (us++ds) (vs++dvs) Q _ hr I.GQ (hb s us I.kIn hl) r2 h) fun r s' hq=>?_)
 cases r with
 | error e=>
   obtain⟨a,C,dx,H',rfl,ho,bare,un,hok,fl,hw⟩:=hq;exact hx pins σ H' s' a C dx (I.B9 ho un hok bare fun b z=>absurd z (by simp)) fl hw
 | ok fl=>
   cases fl with
   |ret u=>exact I.after hq
   |next=>exact False.elim hq
   |brk=>exact False.elim hq
   |cont=>exact False.elim hq
theorem yy(F:cT X.prog X.w X.K X.mg X.base (CXE X.prog X.w) k f fd ps sp)(hr:hJ k X.A)(hg:Gl X x)(hm:X.mg x=some (.ref f))(hk:PySem.W.keepIn X.K (.ref f)=true)(hb:Binds X.K fd ps ds)(hd:Vals dvs ds)(hx:Thr X W)
  (ha:PA X (e ::es) t) (hdb:(x==("__debug__":Str))=false:=by decide) (he:starEach (e ::es) X.env=(false,eval e X.env) ::starEach es X.env:=by rfl) (hpl:(backTo pos (starEach es X.env)).any (·.1)=false:=by rfl):
  PE X (.Call (.Name x p) (e ::es) [] pos) (pZ sp dvs W t):=by
 intro pins s σ H Q I h;refine wpAny_Call_Name_kw (wM I hg hm ?_ hdb);refine PySem.W.callWith_K (h₀:=X.base) I.ok.mod.kin hk (thn (ha pos pins s σ H _ I h) fun us s1 ⟨vs,H1,I1,r,q⟩=>⟨I1.kIn,?_⟩) he hpl;exact A9 F hr hb hd hx I1 r q
end
noncomputable abbrev blk(X:Cx)(scope:Scope)(cl:List (Str×Addr))(N:List Str)(C:Addr)(s₀:Shared)(H₀:Hp)(ex:List Addr):Cx:=
 { prog:=X.prog,w:=X.w,K:=X.K,mg:=X.mg,base:=X.base,A:=X.A,N:=N,s₀:=s₀,H₀:=H₀,env:=compEnvC scope cl C X.env,outer:=X.stack,stack:=X.stack,ex:=ex,fn:=fun _=>false,calm:=X.calm,pn:=[],xe:=fun _ _=>False }
theorem rB:Thr X (fun _ _ _ _=>False):=fun _ _ _ _ _ _ _ _ _ h=>h.elim
structure iy(X:Cx)(scope:Scope)(cl:List (Str×Addr))(M:List Str)(ι:List Nat)(x:Str):Prop where
 clos:closureFor scope X.env=pure cl
 kind:scope.kind=.function
 nocell:(scope.names.all fun p=>p.2 != .cell)=true
 locs:(scope.names.all fun p=>p.2 != .local||scope.names.lookup p.1==some .local)=true
 var:scope.names.lookup x=some .local
 names:M.map some=ι.map fun i=>X.N[i]?
 cells:M.map (fun y=>scope.names.lookup y)=M.map fun _=>some .free
 kinds:M.map X.env.kindOf=M.map fun _=>some .cell
 same:M.map (fun y=>cl.lookup y)=M.map fun y=>X.env.cells.lookup y
 sub:cl.map (fun p=>X.env.cells.lookup p.1)=cl.map fun p=>some p.2
 all:(scope.names.all fun p=>!(p.2 == .free)||(cl.lookup p.1).isSome)=true
 nd:(M++[x]).Nodup
theorem rq{α β:Type}{f g:α->β}{l:List α}(h:l.map f=l.map g){a:α}(ha:a∈l):f a=g a:=by
 induction l with
 |nil=>cases ha
 | cons b r ih=>
   rw[List.map_cons,List.map_cons]at h
   injection h with h1 h2
   rcases List.mem_cons.mp ha with z|z
   . rw[z];exact h1
   . exact ih h2 z
theorem se{scope:Scope}(h:scope.names.lookup y=some .free):(relabel scope env).names.lookup y=some .cell \/ (relabel scope env).names.lookup y=some .free:=by
 unfold relabel;dsimp only;generalize scope.names=l at h
 induction l with
 |nil=>cases h
 | cons p r ih=>
   obtain⟨n,k⟩:=p;rw[List.lookup_cons]at h;rw[List.map_cons]
   by_cases e:(y==n)=true
   . rw[e]at h
     have hk:k=.free:=Option.some.inj h
     subst hk;dsimp only;split
     . rw[List.lookup_cons,e];exact .inl rfl
     . rw[List.lookup_cons,e];exact .inr rfl
   . have e':(y==n)=false:=by simpa using e
     rw[e']at h;dsimp only;split
     . rw[List.lookup_cons,e'];exact ih h
     . rw[List.lookup_cons,e'];exact ih h
theorem sd{scope:Scope}(hc:(scope.names.all fun p=>p.2 != .cell)=true)(h:(relabel scope env).names.lookup y=some .cell \/ (relabel scope env).names.lookup y=some .free):∃ p∈scope.names,p.1=y /\ p.2=.free:=by
 unfold relabel at h
 dsimp only at h
 generalize scope.names=l at h hc
 induction l with
 |nil=>rcases h with h|h<;>cases h
 | cons p r ih=>
   obtain⟨n,k⟩:=p;rw[List.all_cons,Bool.and_eq_true]at hc;rw[List.map_cons]at h
   by_cases e:(y==n)=true
   . refine⟨(n,k),List.mem_cons_self,(beq_iff_eq.mp e).symm,?_⟩
     dsimp only at h ⊢
     split at h
     . rename_i c;simp only[Bool.and_eq_true,beq_iff_eq]at c;exact c.1.1
     . rw[List.lookup_cons,e]at h
       have hk:(k != NameKind.cell)=true:=hc.1
       rcases h with h|h
       . have:k=.cell:=Option.some.inj h
         subst this;exact absurd hk (by decide)
       . exact Option.some.inj h
   . have e':(y==n)=false:=by simpa using e
     have h':(List.map (fun x=>match x with|(n,k)=>if(k==NameKind.free&&env.scope.kind==ScopeKind.function&&env.kindOf n==some NameKind.cell)=true then(n,NameKind.cell)else(n,k)) r).lookup y=some .cell \/
       (List.map (fun x=>match x with|(n,k)=>if(k==NameKind.free&&env.scope.kind==ScopeKind.function&&env.kindOf n==some NameKind.cell)=true then(n,NameKind.cell)else(n,k)) r).lookup y=some .free:=by
      dsimp only at h
      split at h
      . rw[List.lookup_cons,e']at h;exact h
      . rw[List.lookup_cons,e']at h;exact h
     obtain⟨q,hq,z⟩:=ih h' hc.2
     exact⟨q,List.mem_cons_of_mem _ hq,z⟩
noncomputable def pick(ι:List Nat)(σ:St):St:=ι.map fun i=>(σ[i]?).join
noncomputable def oe(wi:TI)(ι:List Nat)(te:TE):TE:=fun σ H Q=>wi σ H fun J H1=>∀ D,H1 D=none->∃ W:Nat->Nat->List V->Hp->Prop,(∃ m,W 0 m [] (upd H1 D (.lst []))) /\ ∀ i m ys H,W i m ys H ->
 H D=some (.lst ys) /\ ((J.stop i H /\ Q (.ref D) H) \/ (J.go i H /\ ∀ x H',J.yld i H x H'->te (pick ι σ++[some x]) H' fun y H2=>H2 D=some (.lst ys) /\ ys.length<sizeLine /\ ∃ m',m'<m /\ W (i+1) m' (ys++[y]) (upd H2 D (.lst (ys++[y])))))
section
variable{X:Cx}{scope:Scope}{cl:List (Str×Addr)}{M:List Str}{ι:List Nat}{x:Str}
theorem iy.pB(S:iy X scope cl M ι x)(h:cl.lookup y=some c):X.env.cells.lookup y=some c:=rq S.sub (PySem.mem_of_lookup h)
theorem sL{pins:List (Addr×Obj)}{s:Shared}{h₁:Heap}(S:iy X scope cl M ι x)(I:Inv X pins σ H s)(hex:∀ b∈ex,jk X pins H b /\ b<s.heap.objs.size)(hn:h₁.Ns s.heap.objs.size (fun _=>none))
  (hk:∀ b o,s.heap.get? b=some o->h₁.get? b=some o):Inv (blk X scope cl (M++[x]) s.heap.objs.size s H ex) [] (pick ι σ++[none]) H { s with heap:=h₁,toks:=t' }:=by
 have noM:∀ b:Addr,b∈ex->b≠s.heap.objs.size:=fun b hb=>Nat.ne_of_lt (hex b hb).2
 have fsx:∀ b∈ex,b∉frs X.stack:=fun b hb z=>by
  obtain⟨⟨_,f1,f2,_⟩,_⟩:=hex b hb
  rcases List.mem_cons.mp (I.vi b z)with e|e
  . exact f1 e
  . exact f2 e
 have base0:∀ b o,X.base.get? b=some o->b∉ex:=fun b o e z=>by
  obtain⟨⟨_,_,_,f3,_⟩,_⟩:=hex b z
  rcases f3 with f|f
  . exact I.ok.noex b o e f
  . exact absurd (Nat.lt_of_lt_of_le (Heap.lt_size e) (Nat.le_trans I.ok.bsz f)) (Nat.lt_irrefl _)
 refine⟨⟨I.ok.mod,S.kind,I.ok.glob,I.ok.blt,Nat.le_refl _,fun y z c h1 h2=>I.ok.inj y z c (S.pB h1) (S.pB h2),fun y hy=>?_,fun y c z=>absurd z Bool.false_ne_true,I.ok.hd,I.ok.frames,.inl rfl,
  fun b hb=>⟨noM b hb,fun y c h z=>(hex b hb).1.2.2.2.2.1 y c (S.pB h) z⟩,I.bs,Nat.le_trans I.ok.bsz I.sz,base0,fsx,I.stack,I.sq⟩,
  rfl,I.bare,Un.kept hk,⟨_,hn,fun i y v e1 e2 e3=>?_⟩,fun y c h=>?_,I.fresh,fun y c h=>?_,fun p hp=>absurd (show p∈([]:List (Addr×Obj)) from hp) (by simp),I.hok.kept hk,?_⟩
 . obtain⟨p,hp,rfl,hpf⟩:=sd S.nocell hy;have q:=List.all_eq_true.mp S.all p hp;rw[hpf]at q
   have q':(cl.lookup p.1).isSome=true:=by
    cases e:(cl.lookup p.1).isSome with
    |true=>rfl
    |false=>rw[e]at q;exact absurd q (by decide)
   exact Option.isSome_iff_exists.mp q'
 . have hiM:i < M.length:=by
    by_cases hlt:i<M.length
    . exact hlt
    . exfalso
      have hl:(pick ι σ).length=M.length:=by
       have q:=congrArg List.length S.names;rw[List.length_map,List.length_map]at q;unfold pick;rw[List.length_map,q]
      rw[List.getElem?_append_right (by omega),hl]at e2
      have:i - M.length=0 \/ 1<=i - M.length:=by omega
      rcases this with z|z
      . rw[z]at e2;cases e2
      . rw[List.getElem?_eq_none (by simpa using z)]at e2;cases e2
   have hl:ι.length=M.length:=by
    have q:=congrArg List.length S.names;rw[List.length_map,List.length_map]at q;exact q.symm
   rw[List.getElem?_append_left hiM]at e1
   have hyM:y∈M:=List.mem_of_getElem? e1
   have e2':((σ[ι[i]]?).join)=some v:=by
    rw[List.getElem?_append_left (by unfold pick;rw[List.length_map];omega)]at e2;unfold pick at e2;rw[List.getElem?_map,List.getElem?_eq_getElem (by omega)]at e2;exact Option.some.inj e2
   have e4:σ[ι[i]]?=some (some v):=by
    cases q:σ[ι[i]]? with
    |none=>rw[q]at e2';cases e2'
    |some w=>rw[q]at e2';exact congrArg some e2'
   have e5:X.N[ι[i]]?=some y:=by
    have q:=congrArg (fun l=>l[i]?) S.names;rw[List.getElem?_map,List.getElem?_map,e1,List.getElem?_eq_getElem (by omega)]at q
    exact(Option.some.inj q).symm
   have kc:X.env.kindOf y=some .cell:=rq S.kinds hyM
   obtain⟨m,hm,hl⟩:=I.loc;obtain⟨u,r,q⟩:=hl _ y v e5 e4 (.inr (.inl kc))
   refine⟨u,r,.inr ⟨?_,?_⟩⟩
   . exact se (rq S.cells hyM)
   . rcases q with⟨k,_⟩|⟨_,c,e,o,ho,hd⟩
     . rw[kc]at k;cases k
     . exact⟨c,(rq S.same hyM).trans e,o,hk _ _ ho,hd⟩
 . obtain⟨v,o,ho,hd⟩:=I.cell y c (S.pB h)
   exact⟨v,o,hk _ _ ho,hd⟩
 . exact I.freeC y c (S.pB h)
 . have q:=congrArg List.length S.names;rw[List.length_map,List.length_map]at q
   show(pick ι σ++[none]).length=(M++[x]).length
   unfold pick;rw[List.length_append,List.length_append,List.length_map,q];rfl
theorem oN{pins:List (Addr×Obj)}{s s':Shared}(I:Inv X pins σ H s)(hC:C=s.heap.objs.size)(hex:∀ b∈ex,jk X pins H b)(J:Inv (blk X scope cl N C s H ex) [] σ' H' s')
  (hs:Heap.SameBut C s'.heap h'):Inv X pins σ H' { s' with heap:=h' }:=by
 subst hC
 have K:Inv X pins σ H' s':=I.B9 (ch:=ex) J.os J.base J.hok J.bare fun b hb=>by
  obtain⟨_,f1,_,f3,f4,f5⟩:=hex b hb
  exact⟨f3,f1,f4,f5⟩
 refine K.turned (t':=s'.toks) (it:=s.heap.objs.size) (fun b o hb e=>(hs.2 b hb).trans e) J.free (Nat.ne_of_gt I.lt) (.inr I.sz) (fun y c e z=>?_) (fun p hp z=>?_)
 . obtain⟨v,q⟩:=I.cell y c e;exact absurd (z ▸ q.lt) (Nat.lt_irrefl _)
 . exact absurd (z ▸ Heap.lt_size (I.pin p hp).1) (Nat.lt_irrefl _)
theorem qB(elt target iter:Expr)(scope:Scope)(pos:Pos)(it acc:Value)(env:Env):
  compTurn (.ListComp elt [⟨target,iter,[],0⟩] scope pos) 0 it acc env=(do
   standAt iter.pos
   match <- pyNext it with
   |none=>pure (.done .next)
   | some v=>do
     letOwnedTupleGo target it v
     assign target env v
     (do let x <- eval elt env;let _ <- call (.builtin "list.append") [acc,x];pure ())
     again (.compLoop (.ListComp elt [⟨target,iter,[],0⟩] scope pos) 0 it acc env)):=by rfl
theorem B4(S:iy X scope cl M ι x)(hc:X.calm=true)(hi:PI X (.Name x px) iter wi)(he:∀ C s₀ H₀ ex,PE (blk X scope cl (M++[x]) C s₀ H₀ ex) elt te)
  (hs:∀ v,foldedSetIterable iter X.env v=pure v:=by intro _;rfl):PE X (.ListComp elt [⟨.Name x px,iter,[],0⟩] scope pos) (oe wi ι te):=by
 intro pins s σ H Q I h;rw[eval_ListComp];refine wpAny_comprehension_free (use:=none) rfl hs S.clos S.kind (fun y hy hl=>?_) (wpAny_mono (hi pins s σ H _ I h) (fun v s1 h1=>wpAny_mono h1 (fun itv s2 h2=>?_) fun _ _ z=>z) fun _ _ z=>z)
 . have q:=List.all_eq_true.mp S.locs y hy;rw[hl]at q
   simpa using q
 obtain⟨it,fp,tn,J,H2,rfl,I2,T,st2,f2,hW⟩:=h2;have I3:=I2.yT (ys:=[]) (its:=[]) (t':=s2.toks) .nil (Nat.zero_le _);obtain⟨W,⟨m0,w0⟩,turn⟩:=hW s2.heap.objs.size I2.fresh
 have fpo:∀ b∈fp,b<s2.heap.objs.size:=fun b hb=>let ⟨_,e,_⟩:=T.obj _ _ st2 b hb;Heap.lt_size e
 have f3:∀ b∈fp,jk X pins (upd H2 s2.heap.objs.size (.lst [])) b:=fun b hb=>by
  obtain⟨q0,q⟩:=f2 b hb
  exact⟨by rw[bj (Nat.ne_of_lt (fpo b hb))];exact q0,q⟩
 show wpAny _ _ (newObj (.type "list") _ none) _ _ s2;refine wpAny_newObj_type (wpAny_newFunctionEnv (fun y hy=>?_) (by intro y hy;simp at hy) (fun h₁ hn₁ sb₁=>?_) S.kind)
 . have q:=List.all_eq_true.mp S.nocell y hy
   simpa using q
 have hsz:(s2.heap.push { cls:=.type "list",dict:=none,data:=.seq ([]:List Value).toArray }).objs.size=s2.heap.objs.size+1:=Heap.size_push ..
 have hk₁:∀ b o,(s2.heap.push { cls:=.type "list",dict:=none,data:=.seq ([]:List Value).toArray }).get? b=some o->h₁.get? b=some o:=fun b o e=>
  (sb₁.2 b (Nat.ne_of_lt (Heap.lt_size e))).trans (Heap.get?_push_of_some _ e)
 have J0:=sL (t':=s2.toks+([]:List (Str×Value)).length) S I3 (ex:=fp) (fun b hb=>⟨f3 b hb,Nat.lt_of_lt_of_le (fpo b hb) (by rw[hsz];exact Nat.le_succ _)⟩) hn₁ hk₁
 have old:∀ b∈fp,∀ o,s2.heap.get? b=some o->h₁.get? b=some o:=fun b _ o e=>hk₁ b o (Heap.get?_push_of_some _ e)
 have st₁:tn 0 h₁:=T.keep _ _ _ st2 old
 have loop:codeAny (model X.prog X.w) X.A (.compLoop (.ListComp elt [⟨.Name x px,iter,[],0⟩] scope pos) 0 (.ref it) (.ref s2.heap.objs.size) (compEnvC scope cl (s2.heap.objs.size+1) X.env))
   (compPost (model X.prog X.w) X.A X.xe none (EP X pins σ Q) (.ref s2.heap.objs.size) (s2.heap.objs.size+1)) { s2 with heap:=h₁,toks:=s2.toks+([]:List (Str×Value)).length }:=by
  rw[hsz]at J0
  refine codeAny_loop rfl (fun n s'=>∃ i H' ys v,Inv (blk X scope cl (M++[x]) (s2.heap.objs.size+1) { s2 with heap:=s2.heap.push { cls:=.type "list",data:=.seq ([]:List Value).toArray },toks:=s2.toks } (upd H2 s2.heap.objs.size (.lst [])) fp) [] (pick ι σ++[v]) H' s' /\ tn i s'.heap /\ (∀ b∈fp,H' b=none) /\ W i n ys H')
   (fun n s' hI=>?_) m0 ⟨0,_,[],none,J0,st₁,fun b hb=>(f3 b hb).1,w0⟩
  obtain⟨i,H',ys,v,J',st',fr',w'⟩:=hI;obtain⟨hD,alt⟩:=turn i n ys H' w'
  have fpY:∀{G:Hp},(∀ b∈fp,G b=none)->∀ b∈fp,jk (blk X scope cl (M++[x]) (s2.heap.objs.size+1) { s2 with heap:=s2.heap.push { cls:=.type "list",data:=.seq ([]:List Value).toArray },toks:=s2.toks } (upd H2 s2.heap.objs.size (.lst [])) fp) [] G b:=fun hG b hb=>
   ⟨hG b hb,(J'.ok.exf b hb).1,J'.ok.exfs b hb,.inl hb,(J'.ok.exf b hb).2,fun p hp=>absurd (show p∈([]:List (Addr×Obj)) from hp) (by simp)⟩
  show wpAny _ _ ((compTurn _ 0 (.ref it) (.ref s2.heap.objs.size) (compEnvC scope cl (s2.heap.objs.size+1) X.env)).onRaise _) _ _ s';refine wpAny_noted (wpAny_noRaise ?_);rw[qB];refine wpAny_bind (wpAny_standAt (wpAny_bind ?_))
  rcases alt with⟨stop,qn⟩|⟨go,step⟩
  . refine thn (T.done (blk X scope cl (M++[x]) (s2.heap.objs.size+1) _ _ fp) rfl rfl rfl hc i [] s' _ H' _ J' (fpY fr') st' stop) fun r s4 ⟨hr,J4⟩=>?_
    subst hr;refine wpAny_pure ?_;obtain⟨m,hm,_⟩:=id J4.loc
    refine⟨m,hm,fun h' sb=>⟨.ref s2.heap.objs.size,H',oN I3 hsz.symm f3 J4 sb,rfl,qn⟩⟩
  . refine thn (T.item (blk X scope cl (M++[x]) (s2.heap.objs.size+1) _ _ fp) rfl rfl rfl hc i [] s' _ H' _ J' (fpY fr') st' go) fun r s4 ⟨u,hr,h4⟩=>?_
    subst hr;refine wpAny_bind (thn h4 fun _ s5 ⟨z,H5,J5,r5,y5,st5,fr5⟩=>?_)
    have J5':=J5.pinned (fpY fr5) (T.obj _ _ st5)
    have hxN:(M++[x])[M.length]?=some x:=by simp
    refine wpAny_bind ?_;refine wpAny_assign_Name ?_;refine gB (X:=blk X scope cl (M++[x]) (s2.heap.objs.size+1) _ _ fp) (i:=M.length) (v:=z) J5' S.nd hxN (.inl (lookup_relabel_local S.var)) r5 (fun s6 J6=>?_) (.inr (lookup_relabel_local S.var))
    have hlp:(pick ι σ).length=M.length:=by
     have q:=congrArg List.length S.names;rw[List.length_map,List.length_map]at q;unfold pick;rw[List.length_map,q]
    have hset:(pick ι σ++[v]).set M.length (some z)=pick ι σ++[some z]:=by
     rw[<- hlp,List.set_append_right _ _ (Nat.le_refl _),Nat.sub_self];rfl
    rw[hset]at J6;refine wpAny_bind (wpAny_bind (thn (he _ _ _ _ _ s6 _ H5 _ J6 (step z H5 y5)) fun yv s7 ⟨y,H7,J7,r7,hD7,hz7,m',hm',w7⟩=>?_));refine wpAny_bind (thn (aW (X:=blk X scope cl (M++[x]) (s2.heap.objs.size+1) _ _ fp) _ s7 _ H7 (.ref s2.heap.objs.size) [y] (.ref s2.heap.objs.size) [yv] (fun _ G=>G=upd H7 s2.heap.objs.size (.lst (ys++[y]))) J7 rfl (.cons r7 .nil) ⟨_,_,y,rfl,rfl,hD7,hz7,rfl⟩) fun _ s8 ⟨_,H8,J8,_,e8⟩=>?_);subst e8;refine wpAny_pure (wpAny_pure ⟨rfl,m',hm',i+1,_,_,some z,J8.eh,?_,fun b hb=>?_,w7⟩)
    . exact T.keep _ _ _ st5 fun b hb o e=>(J8.pin (b,o) (List.mem_append_right _ (List.mem_append_right _ (bS hb e)))).1
    . obtain⟨o,e,d⟩:=T.obj _ _ st5 b hb
      exact(J8.pin (b,o) (List.mem_append_right _ (List.mem_append_right _ (bS hb e)))).2.1
 rw[hsz]at *;exact codeAny_compStart_list loop (T.self X.A 0 _ _ _ st₁ loop)
end
section
variable{X:Cx}
noncomputable def IsV(K:PySem.W.Frag)(T:String)(x:V)(H:Hp)(b:Bool):Prop:=match x with
 |.int _=>(T = "int" /\ b=true) \/ (T = "bool" /\ b=false) \/ (T = "list" /\ b=false) \/ (T = "tuple" /\ b=false) \/ (T = "str" /\ b=false)
 |.bl _=>(T = "int" /\ b=true) \/ (T = "bool" /\ b=true) \/ (T = "list" /\ b=false) \/ (T = "tuple" /\ b=false) \/ (T = "str" /\ b=false)
 |.non=>(T = "int" /\ b=false) \/ (T = "bool" /\ b=false) \/ (T = "list" /\ b=false) \/ (T = "tuple" /\ b=false) \/ (T = "str" /\ b=false)
 |.str _=>(T = "int" /\ b=false) \/ (T = "bool" /\ b=false) \/ (T = "list" /\ b=false) \/ (T = "tuple" /\ b=false) \/ (T = "str" /\ b=true)
 | .ref p=>((∃ xs,SqL K H p xs) /\ ((T = "int" /\ b = false) \/ (T = "bool" /\ b = false) \/ (T = "list" /\ b = true) \/ (T = "tuple" /\ b = false) \/ (T = "str" /\ b = false))) \/
    ((∃ xs,SqT K H p xs) /\ ((T = "int" /\ b=false) \/ (T = "bool" /\ b=false) \/ (T = "list" /\ b=false) \/ (T = "tuple" /\ b=true) \/ (T = "str" /\ b=false)))
 |_=>False
theorem qk:iC X (.builtin "isinstance") (fun xs H Q=>∃ x T b,xs=[x,.ty T] /\ IsV X.K T x H b /\ Q (.bl b) H):=by
 intro pins s σ H vs us Q I rv h;obtain⟨x,T,b,rfl,hv,q⟩:=h;obtain⟨u,v,rfl,ru,rT⟩:=rv.two;cases rT
 cases x with
 | int i=>
   obtain⟨t,rfl⟩:=ru
   rcases hv with⟨rfl,rfl⟩|⟨rfl,rfl⟩|⟨rfl,rfl⟩|⟨rfl,rfl⟩|⟨rfl,rfl⟩
   . exact IsiPair.int_int ⟨.bl _,H,I,rfl,q⟩
   . exact IsiPair.int_bool ⟨.bl _,H,I.tok _,rfl,q⟩
   . exact IsiPair.int_list ⟨.bl _,H,I.tok _,rfl,q⟩
   . exact IsiPair.int_tuple ⟨.bl _,H,I.tok _,rfl,q⟩
   . exact IsiPair.int_str ⟨.bl _,H,I.tok _,rfl,q⟩
 | bl i=>
   cases ru
   rcases hv with⟨rfl,rfl⟩|⟨rfl,rfl⟩|⟨rfl,rfl⟩|⟨rfl,rfl⟩|⟨rfl,rfl⟩
   . exact IsiPair.bool_int ⟨.bl _,H,I,rfl,q⟩
   . exact IsiPair.bool_bool ⟨.bl _,H,I,rfl,q⟩
   . exact IsiPair.bool_list ⟨.bl _,H,I.tok _,rfl,q⟩
   . exact IsiPair.bool_tuple ⟨.bl _,H,I.tok _,rfl,q⟩
   . exact IsiPair.bool_str ⟨.bl _,H,I.tok _,rfl,q⟩
 | non=>
   cases ru
   rcases hv with⟨rfl,rfl⟩|⟨rfl,rfl⟩|⟨rfl,rfl⟩|⟨rfl,rfl⟩|⟨rfl,rfl⟩
   . exact IsiPair.NoneType_int ⟨.bl _,H,I.tok _,rfl,q⟩
   . exact IsiPair.NoneType_bool ⟨.bl _,H,I.tok _,rfl,q⟩
   . exact IsiPair.NoneType_list ⟨.bl _,H,I.tok _,rfl,q⟩
   . exact IsiPair.NoneType_tuple ⟨.bl _,H,I.tok _,rfl,q⟩
   . exact IsiPair.NoneType_str ⟨.bl _,H,I.tok _,rfl,q⟩
 | str i=>
   obtain⟨t,rfl⟩:=ru
   rcases hv with⟨rfl,rfl⟩|⟨rfl,rfl⟩|⟨rfl,rfl⟩|⟨rfl,rfl⟩|⟨rfl,rfl⟩
   . exact IsiPair.str_int ⟨.bl _,H,I.tok _,rfl,q⟩
   . exact IsiPair.str_bool ⟨.bl _,H,I.tok _,rfl,q⟩
   . exact IsiPair.str_list ⟨.bl _,H,I.tok _,rfl,q⟩
   . exact IsiPair.str_tuple ⟨.bl _,H,I.tok _,rfl,q⟩
   . exact IsiPair.str_str ⟨.bl _,H,I,rfl,q⟩
 | ref p=>
   cases ru
   rcases hv with⟨⟨xs,hS⟩,hv⟩|⟨⟨xs,hS⟩,hv⟩
   . obtain⟨its,r,pl,hz⟩:=I.list hS;obtain⟨o,e,c,_⟩:=pl.isList
     rcases hv with⟨rfl,rfl⟩|⟨rfl,rfl⟩|⟨rfl,rfl⟩|⟨rfl,rfl⟩|⟨rfl,rfl⟩
     . exact IsiPair.list_int e c ⟨.bl _,H,I.tok _,rfl,q⟩
     . exact IsiPair.list_bool e c ⟨.bl _,H,I.tok _,rfl,q⟩
     . exact IsiPair.list_list e c ⟨.bl _,H,I,rfl,q⟩
     . exact IsiPair.list_tuple e c ⟨.bl _,H,I.tok _,rfl,q⟩
     . exact IsiPair.list_str e c ⟨.bl _,H,I.tok _,rfl,q⟩
   . obtain⟨its,r,pl,hz⟩:=I.tuple hS;obtain⟨o,e,c,_⟩:=pl
     rcases hv with⟨rfl,rfl⟩|⟨rfl,rfl⟩|⟨rfl,rfl⟩|⟨rfl,rfl⟩|⟨rfl,rfl⟩
     . exact IsiPair.tuple_int e c ⟨.bl _,H,I.tok _,rfl,q⟩
     . exact IsiPair.tuple_bool e c ⟨.bl _,H,I.tok _,rfl,q⟩
     . exact IsiPair.tuple_list e c ⟨.bl _,H,I.tok _,rfl,q⟩
     . exact IsiPair.tuple_tuple e c ⟨.bl _,H,I,rfl,q⟩
     . exact IsiPair.tuple_str e c ⟨.bl _,H,I.tok _,rfl,q⟩
 |_=>exact hv.elim
theorem boot_bool:bootBuiltins "bool" = some (.type "bool"):=by decide +kernel
theorem boot_isinstance:bootBuiltins "isinstance" = some (.builtin "isinstance"):=by decide +kernel
theorem boot_all:bootBuiltins "all" = some (.builtin "all"):=by decide +kernel
theorem boot_tuple:bootBuiltins "tuple" = some (.type "tuple"):=by decide +kernel
theorem boot_list:bootBuiltins "list" = some (.type "list"):=by decide +kernel
theorem boot_int:bootBuiltins "int" = some (.type "int"):=by decide +kernel
theorem boot_str:bootBuiltins "str" = some (.type "str"):=by decide +kernel
theorem boot_len:bootBuiltins "len" = some (.builtin "len"):=by decide +kernel
theorem kZ:∀{ns:List Int} {its:List Value},Vals (ns.map V.int) its->IntsAre its ns
 |[],_,.nil=>.nil
 |n ::_,_,.cons ⟨t,e⟩ r=>by subst e;exact .cons n t (kZ r)
noncomputable def FK(K:PySem.W.Frag)(A:Around)(neg:Bool):R2:=fun x y H Q=>∃(p q:Addr) (ns ms:List Int),x=.ref p /\ y=.ref q /\ SqL K H p (ns.map V.int) /\ SqL K H q (ms.map V.int) /\ A.units+64<cLine /\ Q (.bl (if neg then !decide (ns=ms)else decide (ns=ms))) H
theorem vz:OpR X (compareOp .Eq) (FK X.K X.A false):=by
 intro pins s σ H x y v u Q I rx ry h;obtain⟨p,q,ns,ms,rfl,rfl,h1,h2,hu,hq⟩:=h
 cases rx;cases ry
 obtain⟨its,r,pl,hz⟩:=I.list h1;obtain⟨its',r',pl',hz'⟩:=I.list h2;exact PySem.W.eq_intsK pl.isList (kZ r) pl'.isList (kZ r') hu ⟨.bl _,H,I,rfl,hq⟩
end
section
variable{P:Program}{w:World}{K:PySem.W.Frag}{mg:Str->Option Value}{base:Heap}
theorem okX{x qual:Str}{st:Stmt}{f:Addr}{fd:FuncData}{N ps:List Str}{k:Nat}{sp:Sp}(F:Fun K x qual st f fd)(S:bx N ps (aG st))(len:∀ vs H Q E,sp vs H Q E->vs.length=ps.length)
  (hbody:∀(cdv:Value) (A:Around) (outer:List Env) (s:Shared) (H:Hp) (vs:List V) (Q:VK) (E:XK),hJ k (A.deeper (envOfC qual (aG st) s.heap.objs.size f cdv))->sp vs H Q E ->
    ∃ t,PSs (nF (CXE P w) P w K mg base N qual (aG st) f cdv A outer s H E) (cZ st) t /\ t { nx:=fun _ H'=>Q .non H',rt:=Q } (start N vs) H):cT P w K mg base (CXE P w) (k+1) f fd ps sp:=by
 obtain⟨oc,od,kV,doc,pm,an,cdv,ct,osl,rfl,lk,hcd⟩:=F.ex
 exact F7 lk hcd S len fun A outer s H vs Q E hr hsp=>hbody cdv A outer s H vs Q E hr hsp
end
theorem SqL.new{K:PySem.W.Frag}{H:Hp}{p:Addr}{xs:List V}(h:H p=some (.lst xs)):SqL K H p xs:=.inl (.inl h)
theorem SqT.new{K:PySem.W.Frag}{H:Hp}{p:Addr}{xs:List V}(h:H p=some (.tup xs)):SqT K H p xs:=.inl (.inl h)
theorem BI{H:Hp}{p q:Addr}{o:HO}(h:H q=some o)(n:H p=none):q≠p:=fun z=>by rw[z,n]at h;cases h
theorem _root_.L2.ay.upd{H H':Hp}{p:Addr}{o:HO}(e:ay H H')(n:H p=none):ay H (upd H' p o):=fun b u h=>by
 rw[bj (BI h n)];exact e b u h
theorem _root_.L2.ay.new{H:Hp}{p:Addr}{o:HO}(n:H p=none):ay H (L2.upd H p o):=(ay.refl H).upd n
abbrev Goes(H:Hp)(E:XK)(C:Addr)(dx:Option Addr):Prop:=∀ H' a,ay H H'->H' a=some (tJ a C dx)->E (.ref C) (some a) H'
section
variable{X:Cx}
noncomputable def CI(K:PySem.W.Frag):R2:=fun x y H Q=>∃ l b xs zs,x=.ref l /\ y=.ref b /\ SqL K H l xs /\ SqL K H b zs /\ xs.length+zs.length<=sizeLine /\ ∀ p,H p=none->Q (.ref p) (upd H p (.lst (xs++zs)))
theorem gw:OpR X (binaryOp .Add) (CI X.K):=by
 intro pins s σ H x y v u Q I rx ry h;obtain⟨l,b,xs,zs,rfl,rfl,hH,hB,hz,q⟩:=h;cases rx;cases ry;obtain⟨its,r,pl,_⟩:=I.list hH;obtain⟨its2,r2,pl2,_⟩:=I.list hB;obtain⟨⟨cls,dd,data,sl⟩,ho,hc,n,hd⟩:=pl.isList;obtain⟨⟨cls2,dd2,data2,sl2⟩,ho2,hc2,n2,hd2⟩:=pl2.isList;simp only at hc hd hc2 hd2;subst hc hd hc2 hd2
 have hsz:its.toArray.size+its2.toArray.size<=sizeLine:=by rw[List.size_toArray,List.size_toArray,<- r.length,<- r2.length];exact hz
 refine concat_meets ⟨_,ho,rfl⟩ ⟨_,ho2,rfl⟩ noFill_list_add seq_list_add PySem.F.slot_list_add PySem.F.entry_list_add (PySem.F.args_list_add_2 _ _) (list_addW l b its.toArray its2.toArray n n2 dd dd2 sl sl2 hsz) ⟨ho,ho2,?_⟩
 have ea:its.toArray++its2.toArray=(its++its2).toArray:=by simp
 rw[ea]
 exact⟨.ref _,_,I.yT (t':=s.toks) (r.append r2) (by rw[List.length_append];exact hz),rfl,q _ I.fresh⟩
theorem xV:iC X (.builtin "all") (fun xs H Q=>∃(p:Addr) (bs:List Bool),xs=[.ref p] /\ SqL X.K H p (bs.map V.bl) /\ X.A.handled=none /\ Q (.bl (bs.all id)) H):=by
 intro pins s σ H vs us Q I rv h;obtain⟨p,bs,rfl,hp,hh,q⟩:=h;obtain⟨u,rfl,ru⟩:=rv.one;cases ru;obtain⟨its,r,pl,_⟩:=I.list hp;have hl:=r.length
 have isl:s.heap.IsList p its.toArray:=pl.isList
 obtain⟨o,e,_⟩:=id isl;refine call_all_walk (wpAny_pyIter_list isl ?_)
 have ne:p≠s.heap.objs.size:=Nat.ne_of_lt (Heap.lt_size e)
 have tv:∀(i:Nat) (v:Value),its.toArray[i]?=some v->∃ b,bs[i]?=some b /\ v=Value.bool b:=fun i v hv=>by
  have hv':its[i]?=some v:=by simpa using hv
  have hi:i<its.length:=(List.getElem?_eq_some_iff.mp hv').1
  rw[<- hl,List.length_map]at hi
  have hx:(bs.map V.bl)[i]?=some (V.bl bs[i]):=by simp[hi]
  obtain⟨u,hu,ru⟩:=r.get hx;rw[hv']at hu;cases hu
  exact⟨bs[i],by simp[hi],ru⟩
 refine⟨s.heap.objs.size,_,_,_,_,_,(fun i=>(bs[i]?).getD false),rfl,Walks.list (A:=X.A.in1) hh s.heap.objs.size p ne its.toArray,⟨⟨_,Heap.get?_push_size _ rfl,rfl,rfl⟩,isl.at fun o e=>Heap.get?_push_of_some _ e⟩,fun i v s' Q' E' hP hQ=>?_,fun h' tk hk=>?_⟩
 . obtain⟨b,hb,rfl⟩:=tv i v hP
   have hQ':Q' ((bs[i]?).getD false) s':=hQ
   rw[hb]at hQ';exact wpAny_truthy_bool hQ'
 . have en:its.toArray.size=bs.length:=by rw[List.size_toArray,<- hl,List.length_map]
   have eb:(List.range its.toArray.size).all (fun i=>(bs[i]?).getD false)=bs.all id:=by
    rw[en];rw[Bool.eq_iff_iff,List.all_eq_true,List.all_eq_true];constructor
    . intro hA b hb;obtain⟨i,hi,rfl⟩:=List.mem_iff_getElem.mp hb;have:=hA i (by simpa using hi)
      simpa [hi]using this
    . intro hA i hi
      have hi':i<bs.length:=by simpa using hi
      have:=hA bs[i] (List.getElem_mem hi')
      simpa [hi']using this
   rw[eb]
   refine⟨.bl _,H,I.kept (h':=h') (t':=tk) fun b o e'=>hk b o ?_ (Heap.get?_push_of_some _ e'),rfl,q⟩
   have lt:=Heap.lt_size e';intro z
   have z':b=s.heap.objs.size:=by simpa using z
   exact absurd (z' ▸ lt) (Nat.lt_irrefl _)
end
noncomputable def isStar:Expr->Bool
 |.Starred ..=>true
 |_=>false
theorem xj{e:Expr}{es:List Expr}{env:Env}(h:isStar e=false):starEach (e ::es) env=(false,eval e env) ::starEach es env:=by
 cases e<;>first|rfl|cases h
theorem yN{X:Cx}{e:Expr}{es:List Expr}{te:TE}{t:TA}(ha:PE X e te)(hr:PA X es t)(hs:isStar e=false:=by rfl):PA X (e ::es) (fJ te t):=Bx ha hr (xj hs)
end L2.E
namespace L2.P
open PySem
noncomputable def ixP(n:Nat)(i:Int):Option Nat:=if 0<=i then(if i<n then some i.toNat else none)else if -(n:Int)<=i then some (i+n).toNat else none
noncomputable def atP{α:Type}(xs:List α)(i:Int):Option α:=(ixP xs.length i).bind fun j=>xs[j]?
noncomputable def vm(n d:Nat):Option Int->Nat
 |none=>d
 |some v=>if v<0 then(v+(n:Int)).toNat else min v.toNat n
inductive PV where
 |non|bl (b:Bool)|int (i:Int)|str (s:Str)|lst (xs:List PV)|tup (xs:List PV)
inductive OV where
 | sh (x:PV)|ol (ts:List OV)|ob (c:String) (ks:List Str) (ts:List OV)
   |di (kvs:List (Int×PV))|dt (kvs:List (List Int×PV))
inductive Sl where
 | sh (x:PV)|ow (xs:List PV)|ex (c:String) (fs:List (Str×PV))
   |tr (io:Bool) (t:OV)|bo (t:OV)
abbrev ag:=List (Option Sl)
inductive RV where
 |sh (x:PV)|fr (xs:List PV)|al (xs:List PV)
noncomputable def RV.pv:RV->PV
 |.sh x=>x
 |.fr xs=>.lst xs
 |.al xs=>.lst xs
abbrev XF:=List (Str×PV)
inductive OE where
 |ok (r:RV)|exc (c:String) (fs:XF)|bad
inductive OT where
 |ok (b:Bool)|exc (c:String) (fs:XF)|bad
inductive OA where
 |ok (xs:List PV)|exc (c:String) (fs:XF)|bad
inductive OS where
 |nx (ρ:ag)|rt (ρ:ag) (r:RV)|bk (ρ:ag)|ct (ρ:ag)|exc (ρ:ag) (c:String) (fs:XF)|bad
noncomputable def OE.bind:OE->(RV->OE)->OE
 |.ok r,f=>f r
 |.exc c fs,_=>.exc c fs
 |.bad,_=>.bad
noncomputable def OE.dB:OE->(RV->OT)->OT
 |.ok r,f=>f r
 |.exc c fs,_=>.exc c fs
 |.bad,_=>.bad
noncomputable def OE.dk:OE->(RV->OA)->OA
 |.ok r,f=>f r
 |.exc c fs,_=>.exc c fs
 |.bad,_=>.bad
noncomputable def OE.bU(ρ:ag):OE->(RV->OS)->OS
 |.ok r,f=>f r
 |.exc c fs,_=>.exc ρ c fs
 |.bad,_=>.bad
noncomputable def OT.bind:OT->(Bool->OE)->OE
 |.ok r,f=>f r
 |.exc c fs,_=>.exc c fs
 |.bad,_=>.bad
noncomputable def OT.dB:OT->(Bool->OT)->OT
 |.ok r,f=>f r
 |.exc c fs,_=>.exc c fs
 |.bad,_=>.bad
noncomputable def OT.bU(ρ:ag):OT->(Bool->OS)->OS
 |.ok r,f=>f r
 |.exc c fs,_=>.exc ρ c fs
 |.bad,_=>.bad
noncomputable def OA.bind:OA->(List PV->OE)->OE
 |.ok r,f=>f r
 |.exc c fs,_=>.exc c fs
 |.bad,_=>.bad
noncomputable def OA.dk:OA->(List PV->OA)->OA
 |.ok r,f=>f r
 |.exc c fs,_=>.exc c fs
 |.bad,_=>.bad
noncomputable def OA.bU(ρ:ag):OA->(List PV->OS)->OS
 |.ok r,f=>f r
 |.exc c fs,_=>.exc ρ c fs
 |.bad,_=>.bad
noncomputable def ao(i:Nat):ag->OE:=fun ρ=>match ρ[i]? with
 |some (some (.sh x))=>.ok (.sh x)
 |some (some (.ow xs))=>.ok (.al xs)
 |_=>.bad
noncomputable def mC(x:PV):ag->OE:=fun _=>.ok (.sh x)
noncomputable def oE:Option RV->OE
 |some r=>.ok r
 |none=>.bad
noncomputable def mOp(g:PV->PV->Option RV)(ma mb:ag->OE):ag->OE:=fun ρ=>(ma ρ).bind fun a=>(mb ρ).bind fun b=>oE (g a.pv b.pv)
noncomputable def gI(C:Int->Int->Bool)(f:Int->Int->PV):PV->PV->Option RV
 |.int i,.int j=>if C i j then some (.sh (f i j))else none
 |_,_=>none
noncomputable def dj:=gI (fun _ _=>true) fun i j=>.int (i+j)
noncomputable def uu:=gI (fun _ _=>true) fun i j=>.int (i - j)
noncomputable def tw:=gI (fun i j=>(decide (-(2 ^ 64)<i)&&decide (i<2 ^ 64))||(decide (-(2 ^ 64)<j)&&decide (j<2 ^ 64))) fun i j=>.int (i*j)
noncomputable def b7:=gI (fun _ j=>decide (0<j)&&decide (j<1073741824)) fun i j=>.int (i/j)
noncomputable def bC:=gI (fun _ j=>decide (0<j)) fun i j=>.int (i%j)
noncomputable def gLt:=gI (fun _ _=>true) fun i j=>.bl (decide (i<j))
noncomputable def gGt:=gI (fun _ _=>true) fun i j=>.bl (decide (j<i))
noncomputable def gGe:=gI (fun _ _=>true) fun i j=>.bl (decide (j<=i))
noncomputable def eqS:PV->PV->Option Bool
 |.non,.non=>some true|.non,.int _=>some false|.int _,.non=>some false|.non,.bl _=>some false|.bl _,.non=>some false|.non,.str _=>some false|.str _,.non=>some false
 |.int a,.int b=>some (decide (a=b))|.bl a,.bl b=>some (decide (a=b))|.str a,.str b=>some (decide (a=b))
 |.int _,.str _=>some false|.str _,.int _=>some false|.bl _,.str _=>some false|.str _,.bl _=>some false
 |_,_=>none
noncomputable def gEq:PV->PV->Option RV:=fun x y=>(eqS x y).map fun b=>.sh (.bl b)
noncomputable def gNe:PV->PV->Option RV:=fun x y=>(eqS x y).map fun b=>.sh (.bl (!b))
noncomputable def fq:RV->Option PV
 |.sh x=>some x
 |.fr xs=>some (.lst xs)
 |.al _=>none
noncomputable def aK:ag->OA:=fun _=>.ok []
noncomputable def ak(me:ag->OE)(mr:ag->OA):ag->OA:=fun ρ=>(me ρ).dk fun r=>match fq r with
 |some x=>(mr ρ).dk fun xs=>.ok (x ::xs)
 |none=>.bad
noncomputable def lim:Nat:=16777216
noncomputable def cF(ma:ag->OA):ag->OE:=fun ρ=>(ma ρ).bind fun xs=>if xs.length<=lim then .ok (.fr xs)else .bad
noncomputable def dG(ma:ag->OA):ag->OE:=fun ρ=>(ma ρ).bind fun xs=>if xs.length<=lim then .ok (.sh (.tup xs))else .bad
noncomputable def bK(f:List PV->OE)(ma:ag->OA):ag->OE:=fun ρ=>(ma ρ).bind f
noncomputable def mUn(g:PV->Option RV)(ma:ag->OE):ag->OE:=fun ρ=>(ma ρ).bind fun a=>oE (g a.pv)
noncomputable def fi:PV->Option RV
 |.int i=>some (.sh (.int (-i)))
 |_=>none
noncomputable def xt:PV->Option RV
 |.lst xs=>some (.sh (.int xs.length))
 |.tup xs=>some (.sh (.int xs.length))
 |_=>none
noncomputable def sX:PV->Option RV
 |.int i=>some (.sh (.int i))
 |.bl b=>some (.sh (.int (if b then 1 else 0)))
 |_=>none
noncomputable def mL:PV->Option RV
 |.lst xs=>some (.fr xs)
 |.tup xs=>some (.fr xs)
 |_=>none
noncomputable def i7:PV->PV->Option RV
 |.lst xs,.int i=>(atP xs i).map .sh
 |_,_=>none
noncomputable def dQ:PV->PV->Option RV
 |.tup xs,.int i=>(atP xs i).map .sh
 |_,_=>none
noncomputable def lr:PV->PV->Option RV
 |.lst xs,.lst ys=>if xs.length+ys.length<=lim then some (.fr (xs++ys))else none
 |_,_=>none
noncomputable def nL:List PV->Option (List Int)
 |[]=>some []
 |.int i ::r=>(nL r).map (i ::·)
 |_ ::_=>none
noncomputable def BM:PV->PV->Option Bool
 | .lst xs,.lst ys=>match nL xs,nL ys with
   |some a,some b=>some (decide (a=b))
   |_,_=>none
 |_,_=>none
noncomputable def uL:PV->PV->Option RV:=fun x y=>(BM x y).map fun b=>.sh (.bl b)
noncomputable def kW:List PV->Option (List Bool)
 |[]=>some []
 |.bl i ::r=>(kW r).map (i ::·)
 |_ ::_=>none
noncomputable def Dh:PV->Option RV
 |.lst xs=>(kW xs).map fun bs=>.sh (.bl (bs.all id))
 |_=>none
noncomputable def isP(T:String):PV->Option Bool
 |.int _=>if T = "int" then some true else if T = "bool" \/ T = "list" \/ T = "tuple" \/ T = "str" then some false else none
 |.bl _=>if T = "int" \/ T = "bool" then some true else if T = "list" \/ T = "tuple" \/ T = "str" then some false else none
 |.non=>if T = "int" \/ T = "bool" \/ T = "list" \/ T = "tuple" \/ T = "str" then some false else none
 |.str _=>if T = "str" then some true else if T = "int" \/ T = "bool" \/ T = "list" \/ T = "tuple" then some false else none
 |.lst _=>if T = "list" then some true else if T = "int" \/ T = "bool" \/ T = "tuple" \/ T = "str" then some false else none
 |.tup _=>if T = "tuple" then some true else if T = "int" \/ T = "bool" \/ T = "list" \/ T = "str" then some false else none
noncomputable def mIs(T:String)(ma:ag->OE):ag->OE:=mUn (fun x=>(isP T x).map fun b=>.sh (.bl b)) ma
noncomputable def fN:PV->Option Bool
 |.non=>some false
 |.bl b=>some b
 |.int i=>some (i != 0)
 |.lst xs=>some (!xs.isEmpty)
 |.tup xs=>some (!xs.isEmpty)
 |.str _=>none
noncomputable def oT:Option Bool->OT
 |some b=>.ok b
 |none=>.bad
noncomputable def bw(ma:ag->OE):ag->OT:=fun ρ=>(ma ρ).dB fun r=>oT (fN r.pv)
noncomputable def aA(ma:ag->OE):ag->OT:=fun ρ=>(ma ρ).dB fun r=>match r.pv with
 |.bl b=>.ok b
 |_=>.bad
noncomputable def oz(m:ag->OT):ag->OT:=fun ρ=>(m ρ).dB fun b=>.ok (!b)
noncomputable def cC(m n:ag->OT):ag->OT:=fun ρ=>(m ρ).dB fun b=>if b=true then n ρ else .ok false
noncomputable def nO(m n:ag->OT):ag->OT:=fun ρ=>(m ρ).dB fun b=>if b=true then .ok true else n ρ
noncomputable def hU(m n:ag->OE):ag->OE:=fun ρ=>(m ρ).bind fun r=>match r.pv with
 |.bl b=>if b=true then n ρ else .ok (.sh (.bl false))
 |_=>.bad
noncomputable def tD(m n:ag->OE):ag->OE:=fun ρ=>(m ρ).bind fun r=>match r.pv with
 |.bl b=>if b=true then .ok (.sh (.bl true))else n ρ
 |_=>.bad
noncomputable def m8(m:ag->OE):ag->OE:=fun ρ=>(m ρ).bind fun r=>match r.pv with
 |.bl b=>.ok (.sh (.bl (!b)))
 |_=>.bad
noncomputable def jR(c:ag->OT)(m n:ag->OE):ag->OE:=fun ρ=>(c ρ).bind fun b=>if b=true then m ρ else n ρ
noncomputable def nY(g g':PV->PV->Option RV)(ma mb mc:ag->OE):ag->OE:=fun ρ=>(ma ρ).bind fun a=>(mb ρ).bind fun b=>(oE (g a.pv b.pv)).bind fun r=>match r.pv with
 |.bl k=>if k=true then(mc ρ).bind fun c=>oE (g' b.pv c.pv)else .ok (.sh (.bl false))
 |_=>.bad
noncomputable def OS.andThen:OS->(ag->OS)->OS
 |.nx ρ,k=>k ρ
 |o,_=>o
noncomputable def OS.turn:OS->(ag->OS)->OS
 |.nx ρ,k=>k ρ
 |.ct ρ,k=>k ρ
 |.bk ρ,_=>.nx ρ
 |o,_=>o
noncomputable def aD(a b:ag->OS):ag->OS:=fun ρ=>(a ρ).andThen b
noncomputable def bA:ag->OS:=fun ρ=>.nx ρ
noncomputable def zz:RV->Option Sl
 |.sh x=>some (.sh x)
 |.fr xs=>some (.ow xs)
 |.al _=>none
noncomputable def aF(i:Nat)(me:ag->OE):ag->OS:=fun ρ=>(me ρ).bU ρ fun r=>match zz r with
 |some s=>.nx (ρ.set i (some s))
 |none=>.bad
noncomputable def bz(c:ag->OT)(m n:ag->OS):ag->OS:=fun ρ=>(c ρ).bU ρ fun b=>if b=true then m ρ else n ρ
noncomputable def cS(me:ag->OE):ag->OS:=fun ρ=>(me ρ).bU ρ fun r=>match r with
 |.al _=>.bad
 |r=>.rt ρ r
noncomputable def cY(i:Nat):ag->OS:=fun ρ=>match ρ[i]? with
 |some (some (.sh x))=>.rt ρ (.sh x)
 |some (some (.ow xs))=>.rt (ρ.set i none) (.fr xs)
 |_=>.bad
noncomputable def fT(i:Nat)(ρ:ag):ag:=match ρ[i]? with
 |some (some (.ow xs))=>ρ.set i (some (.sh (.lst xs)))
 |_=>ρ
noncomputable def bg(i:Nat)(me:ag->OE):ag->OS:=fun ρ=>match ρ[i]? with
 | some (some (.ow xs))=>(me ρ).bU ρ fun r=>match fq r with
   |some y=>if xs.length<lim then .nx (ρ.set i (some (.ow (xs++[y]))))else .bad
   |none=>.bad
 |_=>.bad
noncomputable def dM(i:Nat)(mb:ag->OS):List PV->ag->OS
 |[],ρ=>.nx ρ
 |x ::xs,ρ=>(mb (ρ.set i (some (.sh x)))).turn (dM i mb xs)
noncomputable def ux:RV->Option (List PV)
 |.sh (.lst xs)=>some xs
 |.fr xs=>some xs
 |_=>none
noncomputable def jY(i:Nat)(ml:ag->OE)(mb:ag->OS):ag->OS:=fun ρ=>(ml ρ).bU ρ fun r=>match ux r with
 |some xs=>dM i mb xs ρ
 |none=>.bad
noncomputable def bX(n:Nat):List PV:=(List.range n).map fun k:Nat=>PV.int (k:Int)
noncomputable def jX(i:Nat)(me:ag->OE)(mb:ag->OS):ag->OS:=fun ρ=>(me ρ).bU ρ fun r=>match r.pv with
 |.int j=>if -(2 ^ 62)<=j /\ j<2 ^ 62 then dM i mb (bX j.toNat) ρ else .bad
 |_=>.bad
noncomputable def gg(mc:ag->OT)(mb:ag->OS):Nat->ag->OS
 |0,_=>.bad
 |n+1,ρ=>(mc ρ).bU ρ fun b=>if b=true then(mb ρ).turn (gg mc mb n)else .nx ρ
noncomputable def qg:PV->Option Int
 |.int i=>some i
 |_=>none
noncomputable def wx(m:ag->OE):ag->OE:=fun ρ=>(m ρ).bind fun r=>match r.pv with
 |.int i=>.ok (.sh (.int i))
 |_=>.bad
noncomputable def zy(xs:List PV)(lo hi:Option Int):List PV:=(xs.drop (vm xs.length 0 lo)).take (vm xs.length xs.length hi - vm xs.length 0 lo)
noncomputable def DN(x:PV)(lo hi:Option Int):Option RV:=match x with
 |.lst xs=>some (.fr (zy xs lo hi))
 |_=>none
noncomputable def BV(ma ml mh:ag->OE):ag->OE:=fun ρ=>(ma ρ).bind fun a=>(ml ρ).bind fun l=>(mh ρ).bind fun h=>oE (DN a.pv (qg l.pv) (qg h.pv))
noncomputable def b4(ι:List Nat)(ρ:ag):ag:=ι.map fun i=>(ρ[i]?).join
noncomputable def cf(me:ag->OE)(ρ:ag):List PV->OA
 |[]=>.ok []
 | x ::xs=>(me (ρ++[some (.sh x)])).dk fun r=>match fq r with
   |some y=>(cf me ρ xs).dk fun ys=>.ok (y ::ys)
   |none=>.bad
noncomputable def noX:OA->OE
 |.ok xs=>if xs.length<=lim then .ok (.fr xs)else .bad
 |_=>.bad
noncomputable def nI(ml:ag->OE)(ι:List Nat)(me:ag->OE):ag->OE:=fun ρ=>(ml ρ).bind fun r=>match r.pv with
 |.lst xs=>noX (cf me (b4 ι ρ) xs)
 |_=>.bad
noncomputable def nW(mn:ag->OE)(ι:List Nat)(me:ag->OE):ag->OE:=fun ρ=>(mn ρ).bind fun r=>match r.pv with
 |.int j=>if -(2 ^ 62)<=j /\ j<2 ^ 62 then noX (cf me (b4 ι ρ) (bX j.toNat))else .bad
 |_=>.bad
noncomputable def fin:OS->OE
 |.nx _=>.ok (.sh .non)
 |.rt _ (.al _)=>.bad
 |.rt _ r=>.ok r
 |.exc _ c fs=>.exc c fs
 |_=>.bad
noncomputable def eT(n:Nat)(xs:List PV):ag:=xs.map (fun x=>some (.sh x))++List.replicate (n - xs.length) none
noncomputable def fnP(np n:Nat)(m:ag->OS):List PV->OE:=fun xs=>if xs.length=np then fin (m (eT n xs))else .bad
noncomputable def fuel:Nat:=100000
noncomputable def cw(i:Nat)(m:ag->OS):ag->OS:=fun ρ=>m (fT i ρ)
@[simp] theorem sQ(i:Nat)(ρ:ag):ao i ρ=(match ρ[i]? with
  |some (some (.sh x))=>.ok (.sh x)
  |some (some (.ow xs))=>.ok (.al xs)
  |_=>.bad):=rfl
@[simp] theorem Fi(g:PV->PV->Option RV)(ma mb:ag->OE)(ρ:ag):mOp g ma mb ρ=((ma ρ).bind fun a=>(mb ρ).bind fun b=>oE (g a.pv b.pv)):=rfl
@[simp] theorem Gm(me:ag->OE)(mr:ag->OA)(ρ:ag):ak me mr ρ=((me ρ).dk fun r=>match fq r with
  |some x=>(mr ρ).dk fun xs=>.ok (x ::xs)
  |none=>.bad):=rfl
@[simp] theorem GY(ma:ag->OA)(ρ:ag):cF ma ρ=((ma ρ).bind fun xs=>if xs.length<=lim then .ok (.fr xs)else .bad):=rfl
@[simp] theorem G8(ma:ag->OA)(ρ:ag):dG ma ρ=((ma ρ).bind fun xs=>if xs.length<=lim then .ok (.sh (.tup xs))else .bad):=rfl
@[simp] theorem GL(f:List PV->OE)(ma:ag->OA)(ρ:ag):bK f ma ρ=((ma ρ).bind f):=rfl
@[simp] theorem CN(g:PV->Option RV)(ma:ag->OE)(ρ:ag):mUn g ma ρ=((ma ρ).bind fun a=>oE (g a.pv)):=rfl
@[simp] theorem Fg(ma:ag->OE)(ρ:ag):bw ma ρ=((ma ρ).dB fun r=>oT (fN r.pv)):=rfl
@[simp] theorem GK(ma:ag->OE)(ρ:ag):aA ma ρ=((ma ρ).dB fun r=>match r.pv with
  |.bl b=>.ok b
  |_=>.bad):=rfl
@[simp] theorem GO(m:ag->OT)(ρ:ag):oz m ρ=((m ρ).dB fun b=>.ok (!b)):=rfl
@[simp] theorem GA(m n:ag->OT)(ρ:ag):cC m n ρ=((m ρ).dB fun b=>if b=true then n ρ else .ok false):=rfl
@[simp] theorem G6(m n:ag->OT)(ρ:ag):nO m n ρ=((m ρ).dB fun b=>if b=true then .ok true else n ρ):=rfl
@[simp] theorem Gh(m n:ag->OE)(ρ:ag):hU m n ρ=((m ρ).bind fun r=>match r.pv with
  |.bl b=>if b=true then n ρ else .ok (.sh (.bl false))
  |_=>.bad):=rfl
@[simp] theorem Hu(m n:ag->OE)(ρ:ag):tD m n ρ=((m ρ).bind fun r=>match r.pv with
  |.bl b=>if b=true then .ok (.sh (.bl true))else n ρ
  |_=>.bad):=rfl
@[simp] theorem Gq(m:ag->OE)(ρ:ag):m8 m ρ=((m ρ).bind fun r=>match r.pv with
  |.bl b=>.ok (.sh (.bl (!b)))
  |_=>.bad):=rfl
@[simp] theorem Hq(c:ag->OT)(m n:ag->OE)(ρ:ag):jR c m n ρ=((c ρ).bind fun b=>if b=true then m ρ else n ρ):=rfl
@[simp] theorem Fj(g g':PV->PV->Option RV)(ma mb mc:ag->OE)(ρ:ag):nY g g' ma mb mc ρ=((ma ρ).bind fun a=>(mb ρ).bind fun b=>(oE (g a.pv b.pv)).bind fun r=>match r.pv with
  |.bl k=>if k=true then(mc ρ).bind fun c=>oE (g' b.pv c.pv)else .ok (.sh (.bl false))
  |_=>.bad):=rfl
@[simp] theorem qa(a b:ag->OS)(ρ:ag):aD a b ρ=((a ρ).andThen b):=rfl
@[simp] theorem AQ(ρ:ag):bA  ρ=(.nx ρ):=rfl
@[simp] theorem yR(i:Nat)(me:ag->OE)(ρ:ag):aF i me ρ=((me ρ).bU ρ fun r=>match zz r with
  |some s=>.nx (ρ.set i (some s))
  |none=>.bad):=rfl
@[simp] theorem Ad(c:ag->OT)(m n:ag->OS)(ρ:ag):bz c m n ρ=((c ρ).bU ρ fun b=>if b=true then m ρ else n ρ):=rfl
@[simp] theorem He(me:ag->OE)(ρ:ag):cS me ρ=((me ρ).bU ρ fun r=>match r with
  |.al _=>.bad
  |r=>.rt ρ r):=rfl
@[simp] theorem E1(i:Nat)(ρ:ag):cY i ρ=(match ρ[i]? with
  |some (some (.sh x))=>.rt ρ (.sh x)
  |some (some (.ow xs))=>.rt (ρ.set i none) (.fr xs)
  |_=>.bad):=rfl
@[simp] theorem E4(i:Nat)(me:ag->OE)(ρ:ag):bg i me ρ=(match ρ[i]? with
  | some (some (.ow xs))=>(me ρ).bU ρ fun r=>match fq r with
    |some y=>if xs.length<lim then .nx (ρ.set i (some (.ow (xs++[y]))))else .bad
    |none=>.bad
  |_=>.bad):=rfl
@[simp] theorem Gr(i:Nat)(ml:ag->OE)(mb:ag->OS)(ρ:ag):jY i ml mb ρ=((ml ρ).bU ρ fun r=>match ux r with
  |some xs=>dM i mb xs ρ
  |none=>.bad):=rfl
@[simp] theorem Gp(i:Nat)(me:ag->OE)(mb:ag->OS)(ρ:ag):jX i me mb ρ=((me ρ).bU ρ fun r=>match r.pv with
  |.int j=>if -(2 ^ 62)<=j /\ j<2 ^ 62 then dM i mb (bX j.toNat) ρ else .bad
  |_=>.bad):=rfl
@[simp] theorem Gu(m:ag->OE)(ρ:ag):wx m ρ=((m ρ).bind fun r=>match r.pv with
  |.int i=>.ok (.sh (.int i))
  |_=>.bad):=rfl
@[simp] theorem Hv(ma ml mh:ag->OE)(ρ:ag):BV ma ml mh ρ=((ma ρ).bind fun a=>(ml ρ).bind fun l=>(mh ρ).bind fun h=>oE (DN a.pv (qg l.pv) (qg h.pv))):=rfl
@[simp] theorem FL(ml:ag->OE)(ι:List Nat)(me:ag->OE)(ρ:ag):nI ml ι me ρ=((ml ρ).bind fun r=>match r.pv with
  |.lst xs=>noX (cf me (b4 ι ρ) xs)
  |_=>.bad):=rfl
@[simp] theorem FD(mn:ag->OE)(ι:List Nat)(me:ag->OE)(ρ:ag):nW mn ι me ρ=((mn ρ).bind fun r=>match r.pv with
  |.int j=>if -(2 ^ 62)<=j /\ j<2 ^ 62 then noX (cf me (b4 ι ρ) (bX j.toNat))else .bad
  |_=>.bad):=rfl
@[simp] theorem E8(i:Nat)(m:ag->OS)(ρ:ag):cw i m ρ=(m (fT i ρ)):=rfl
@[simp] theorem Ib(x:PV)(ρ:ag):mC x ρ=.ok (.sh x):=rfl
@[simp] theorem GZ(ρ:ag):aK ρ=.ok []:=rfl
@[simp] theorem n8(r:RV)(f:RV->OE):OE.bind (.ok r) f=f r:=rfl
@[simp] theorem Et(c:String)(fs:XF)(f:RV->OE):OE.bind (.exc c fs) f=.exc c fs:=rfl
@[simp] theorem DD{p:Prop}[Decidable p](x y:OE)(f:RV->OE):OE.bind (if p then x else y) f=if p then OE.bind x f else OE.bind y f:=by split<;>rfl
@[simp] theorem Eu(r:RV)(f:RV->OT):OE.dB (.ok r) f=f r:=rfl
@[simp] theorem CP(c:String)(fs:XF)(f:RV->OT):OE.dB (.exc c fs) f=.exc c fs:=rfl
@[simp] theorem CJ{p:Prop}[Decidable p](x y:OE)(f:RV->OT):OE.dB (if p then x else y) f=if p then OE.dB x f else OE.dB y f:=by split<;>rfl
@[simp] theorem C2(r:RV)(f:RV->OA):OE.dk (.ok r) f=f r:=rfl
@[simp] theorem Cf(c:String)(fs:XF)(f:RV->OA):OE.dk (.exc c fs) f=.exc c fs:=rfl
@[simp] theorem CG{p:Prop}[Decidable p](x y:OE)(f:RV->OA):OE.dk (if p then x else y) f=if p then OE.dk x f else OE.dk y f:=by split<;>rfl
@[simp] theorem Fb(r:Bool)(f:Bool->OE):OT.bind (.ok r) f=f r:=rfl
@[simp] theorem D4(c:String)(fs:XF)(f:Bool->OE):OT.bind (.exc c fs) f=.exc c fs:=rfl
@[simp] theorem C0{p:Prop}[Decidable p](x y:OT)(f:Bool->OE):OT.bind (if p then x else y) f=if p then OT.bind x f else OT.bind y f:=by split<;>rfl
@[simp] theorem DR(r:Bool)(f:Bool->OT):OT.dB (.ok r) f=f r:=rfl
@[simp] theorem Cw(c:String)(fs:XF)(f:Bool->OT):OT.dB (.exc c fs) f=.exc c fs:=rfl
@[simp] theorem CL{p:Prop}[Decidable p](x y:OT)(f:Bool->OT):OT.dB (if p then x else y) f=if p then OT.dB x f else OT.dB y f:=by split<;>rfl
@[simp] theorem E2(r:List PV)(f:List PV->OE):OA.bind (.ok r) f=f r:=rfl
@[simp] theorem Dv(c:String)(fs:XF)(f:List PV->OE):OA.bind (.exc c fs) f=.exc c fs:=rfl
@[simp] theorem EV{p:Prop}[Decidable p](x y:OA)(f:List PV->OE):OA.bind (if p then x else y) f=if p then OA.bind x f else OA.bind y f:=by split<;>rfl
@[simp] theorem C5(r:List PV)(f:List PV->OA):OA.dk (.ok r) f=f r:=rfl
@[simp] theorem CD(c:String)(fs:XF)(f:List PV->OA):OA.dk (.exc c fs) f=.exc c fs:=rfl
@[simp] theorem CA{p:Prop}[Decidable p](x y:OA)(f:List PV->OA):OA.dk (if p then x else y) f=if p then OA.dk x f else OA.dk y f:=by split<;>rfl
@[simp] theorem cN(ρ:ag)(r:RV)(f:RV->OS):OE.bU ρ (.ok r) f=f r:=rfl
@[simp] theorem CF(ρ:ag)(c:String)(fs:XF)(f:RV->OS):OE.bU ρ (.exc c fs) f=.exc ρ c fs:=rfl
@[simp] theorem Cm{p:Prop}[Decidable p](ρ:ag)(x y:OE)(f:RV->OS):OE.bU ρ (if p then x else y) f=if p then OE.bU ρ x f else OE.bU ρ y f:=by split<;>rfl
@[simp] theorem o7(ρ:ag)(r:Bool)(f:Bool->OS):OT.bU ρ (.ok r) f=f r:=rfl
@[simp] theorem Cv(ρ:ag)(c:String)(fs:XF)(f:Bool->OS):OT.bU ρ (.exc c fs) f=.exc ρ c fs:=rfl
@[simp] theorem CC{p:Prop}[Decidable p](ρ:ag)(x y:OT)(f:Bool->OS):OT.bU ρ (if p then x else y) f=if p then OT.bU ρ x f else OT.bU ρ y f:=by split<;>rfl
@[simp] theorem DJ(ρ:ag)(r:List PV)(f:List PV->OS):OA.bU ρ (.ok r) f=f r:=rfl
@[simp] theorem Cg(ρ:ag)(c:String)(fs:XF)(f:List PV->OS):OA.bU ρ (.exc c fs) f=.exc ρ c fs:=rfl
@[simp] theorem CO{p:Prop}[Decidable p](ρ:ag)(x y:OA)(f:List PV->OS):OA.bU ρ (if p then x else y) f=if p then OA.bU ρ x f else OA.bU ρ y f:=by split<;>rfl
@[simp] theorem jE(ρ:ag)(k:ag->OS):(OS.nx ρ).andThen k=k ρ:=rfl
@[simp] theorem nj(ρ:ag)(k:ag->OS):(OS.nx ρ).turn k=k ρ:=rfl
@[simp] theorem Er(ρ:ag)(k:ag->OS):(OS.bk ρ).andThen k=OS.bk ρ:=rfl
@[simp] theorem GG(ρ:ag)(k:ag->OS):(OS.bk ρ).turn k=.nx ρ:=rfl
@[simp] theorem ES(ρ:ag)(k:ag->OS):(OS.ct ρ).andThen k=OS.ct ρ:=rfl
@[simp] theorem Gy(ρ:ag)(k:ag->OS):(OS.ct ρ).turn k=k ρ:=rfl
@[simp] theorem Ej(ρ:ag)(r:RV)(k:ag->OS):(OS.rt ρ r).andThen k=OS.rt ρ r:=rfl
@[simp] theorem Gx(ρ:ag)(r:RV)(k:ag->OS):(OS.rt ρ r).turn k=OS.rt ρ r:=rfl
@[simp] theorem Ck(ρ:ag)(c:String)(fs:XF)(k:ag->OS):(OS.exc ρ c fs).andThen k=OS.exc ρ c fs:=rfl
@[simp] theorem FW(ρ:ag)(c:String)(fs:XF)(k:ag->OS):(OS.exc ρ c fs).turn k=OS.exc ρ c fs:=rfl
@[simp] theorem Cz{p:Prop}[Decidable p](x y:OS)(k:ag->OS):OS.andThen (if p then x else y) k=if p then x.andThen k else y.andThen k:=by split<;>rfl
@[simp] theorem Fo{p:Prop}[Decidable p](x y:OS)(k:ag->OS):OS.turn (if p then x else y) k=if p then x.turn k else y.turn k:=by split<;>rfl
@[simp] theorem Hd(ρ:ag):fin (.nx ρ)=.ok (.sh .non):=rfl
@[simp] theorem Hw(ρ:ag)(x:PV):fin (.rt ρ (.sh x))=.ok (.sh x):=rfl
@[simp] theorem GS(ρ:ag)(x:List PV):fin (.rt ρ (.fr x))=.ok (.fr x):=rfl
@[simp] theorem GI(ρ:ag)(c:String)(fs:XF):fin (.exc ρ c fs)=.exc c fs:=rfl
@[simp] theorem Gw{p:Prop}[Decidable p](x y:OS):fin (if p then x else y)=if p then fin x else fin y:=by split<;>rfl
@[simp] theorem HK(x:PV):RV.pv (.sh x)=x:=rfl
@[simp] theorem FE(x:List PV):RV.pv (.fr x)=.lst x:=rfl
@[simp] theorem FR(x:List PV):RV.pv (.al x)=.lst x:=rfl
@[simp] theorem sI(r:RV):oE (some r)=.ok r:=rfl
@[simp] theorem GD(r:Bool):oT (some r)=.ok r:=rfl
@[simp] theorem E5(i:Nat)(mb:ag->OS)(ρ:ag):dM i mb [] ρ=.nx ρ:=rfl
@[simp] theorem gf(i:Nat)(mb:ag->OS)(x:PV)(xs:List PV)(ρ:ag):dM i mb (x ::xs) ρ=(mb (ρ.set i (some (.sh x)))).turn (dM i mb xs):=rfl
@[simp] theorem GU(i j:Int):dj (.int i) (.int j)=some (.sh (.int (i+j))):=rfl
@[simp] theorem G1(i j:Int):uu (.int i) (.int j)=some (.sh (.int (i - j))):=rfl
@[simp] theorem Hr(i j:Int):tw (.int i) (.int j)=if((decide (-(2 ^ 64)<i)&&decide (i<2 ^ 64))||(decide (-(2 ^ 64)<j)&&decide (j<2 ^ 64)))=true then some (.sh (.int (i*j)))else none:=rfl
@[simp] theorem Hs(i j:Int):b7 (.int i) (.int j)=if(decide (0<j)&&decide (j<1073741824))=true then some (.sh (.int (i/j)))else none:=rfl
@[simp] theorem Hi(i j:Int):bC (.int i) (.int j)=if decide (0<j)=true then some (.sh (.int (i%j)))else none:=rfl
@[simp] theorem HL(i j:Int):gLt (.int i) (.int j)=some (.sh (.bl (decide (i<j)))):=rfl
@[simp] theorem HV(i j:Int):gGt (.int i) (.int j)=some (.sh (.bl (decide (j<i)))):=rfl
@[simp] theorem HM(i j:Int):gGe (.int i) (.int j)=some (.sh (.bl (decide (j<=i)))):=rfl
@[simp] theorem HQ(i j:Int):gEq (.int i) (.int j)=some (.sh (.bl (decide (i=j)))):=rfl
@[simp] theorem HY(i j:Int):gNe (.int i) (.int j)=some (.sh (.bl (!decide (i=j)))):=rfl
@[simp] theorem HZ(i j:Bool):gEq (.bl i) (.bl j)=some (.sh (.bl (decide (i=j)))):=rfl
@[simp] theorem HH(i j:Bool):gNe (.bl i) (.bl j)=some (.sh (.bl (!decide (i=j)))):=rfl
@[simp] theorem zm(xs:List PV):xt (.lst xs)=some (.sh (.int xs.length)):=rfl
@[simp] theorem GV(xs:List PV):xt (.tup xs)=some (.sh (.int xs.length)):=rfl
@[simp] theorem Ht(xs:List PV)(i:Int):i7 (.lst xs) (.int i)=(atP xs i).map .sh:=rfl
@[simp] theorem GW(xs:List PV)(i:Int):dQ (.tup xs) (.int i)=(atP xs i).map .sh:=rfl
@[simp] theorem DK(xs ys:List PV):lr (.lst xs) (.lst ys)=if xs.length+ys.length<=lim then some (.fr (xs++ys))else none:=rfl
@[simp] theorem GR{p:Prop}[Decidable p](x y:Option RV):oE (if p then x else y)=if p then oE x else oE y:=by split<;>rfl
@[simp] theorem G0(b:Bool):fN (.bl b)=some b:=rfl
@[simp] theorem Hj(i:Int):fN (.int i)=some (i != 0):=rfl
@[simp] theorem G7(xs:List PV):fN (.lst xs)=some (!xs.isEmpty):=rfl
@[simp] theorem Hh(xs:List PV):fN (.tup xs)=some (!xs.isEmpty):=rfl
@[simp] theorem G4:fN .non=some false:=rfl
@[simp] theorem E7(i:Int):isP "int" (.int i)=some true:=rfl
@[simp] theorem Dw(i:Int):isP "bool" (.int i)=some false:=rfl
@[simp] theorem Dm(i:Bool):isP "bool" (.bl i)=some true:=rfl
@[simp] theorem Ez(xs:List PV):isP "list" (.lst xs)=some true:=rfl
@[simp] theorem E9(xs:List PV):mL (.lst xs)=some (.fr xs):=rfl
@[simp] theorem E3(xs:List PV):mL (.tup xs)=some (.fr xs):=rfl
@[simp] theorem G9(xs:List PV)(lo hi:Option Int):DN (.lst xs) lo hi=some (.fr (zy xs lo hi)):=rfl
@[simp] theorem GH:qg .non=none:=rfl
@[simp] theorem GJ(i:Int):qg (.int i)=some i:=rfl
@[simp] theorem G2(i:Int):fi (.int i)=some (.sh (.int (-i))):=rfl
@[simp] theorem Gd(i:Int):sX (.int i)=some (.sh (.int i)):=rfl
@[simp] theorem GF(i:Bool):sX (.bl i)=some (.sh (.int (if i then 1 else 0))):=rfl
@[simp] theorem Gi(x:PV):fq (.sh x)=some x:=rfl
@[simp] theorem GC(x:List PV):fq (.fr x)=some (.lst x):=rfl
@[simp] theorem Gk(x:PV):zz (.sh x)=some (.sh x):=rfl
@[simp] theorem AY(x:List PV):zz (.fr x)=some (.ow x):=rfl
@[simp] theorem yA(np n:Nat)(m:ag->OS)(xs:List PV):fnP np n m xs=if xs.length=np then fin (m (eT n xs))else .bad:=rfl
@[simp] theorem qj(n:Nat)(xs:List PV):eT n xs=xs.map (fun x=>some (.sh x))++List.replicate (n - xs.length) none:=rfl
@[simp] theorem zM(xs:List PV):ux (.sh (.lst xs))=some xs:=rfl
@[simp] theorem Gz(xs:List PV):ux (.fr xs)=some xs:=rfl
@[simp] theorem Hn(xs:List PV):noX (.ok xs)=if xs.length<=lim then .ok (.fr xs)else .bad:=rfl
@[simp] theorem Dn(me:ag->OE)(ρ:ag):cf me ρ []=.ok []:=rfl
@[simp] theorem EK(f:RV->OE):OE.bind .bad f=.bad:=rfl
@[simp] theorem CH(f:RV->OT):OE.dB .bad f=.bad:=rfl
@[simp] theorem Ci(f:RV->OA):OE.dk .bad f=.bad:=rfl
@[simp] theorem EI(f:Bool->OE):OT.bind .bad f=.bad:=rfl
@[simp] theorem Ce(f:Bool->OT):OT.dB .bad f=.bad:=rfl
@[simp] theorem DY(f:List PV->OE):OA.bind .bad f=.bad:=rfl
@[simp] theorem Ca(f:List PV->OA):OA.dk .bad f=.bad:=rfl
@[simp] theorem CB(ρ:ag)(f:RV->OS):OE.bU ρ .bad f=.bad:=rfl
@[simp] theorem Ct(ρ:ag)(f:Bool->OS):OT.bU ρ .bad f=.bad:=rfl
@[simp] theorem Cb(ρ:ag)(f:List PV->OS):OA.bU ρ .bad f=.bad:=rfl
@[simp] theorem CS(k:ag->OS):OS.bad.andThen k=.bad:=rfl
@[simp] theorem Fs(k:ag->OS):OS.bad.turn k=.bad:=rfl
@[simp] theorem Ge:fin .bad=.bad:=rfl
@[simp] theorem GN:oE none=.bad:=rfl
@[simp] theorem Gn:oT none=.bad:=rfl
@[simp] theorem Gg(x:List PV):fq (.al x)=none:=rfl
@[simp] theorem Gf(x:List PV):zz (.al x)=none:=rfl
@[simp] theorem HW:(0<=lim)=True:=by simp[lim]
@[simp] theorem HE:(1<=lim)=True:=by simp[lim]
@[simp] theorem HD:(2<=lim)=True:=by simp[lim]
@[simp] theorem HU:(3<=lim)=True:=by simp[lim]
@[simp] theorem HS:(4<=lim)=True:=by simp[lim]
@[simp] theorem H0:(5<=lim)=True:=by simp[lim]
@[simp] theorem HG:(6<=lim)=True:=by simp[lim]
@[simp] theorem HN:(7<=lim)=True:=by simp[lim]
@[simp] theorem HJ:(8<=lim)=True:=by simp[lim]
@[simp] theorem Ia:(9<=lim)=True:=by simp[lim]
@[simp] theorem Hz:(10<=lim)=True:=by simp[lim]
@[simp] theorem Ho:(11<=lim)=True:=by simp[lim]
@[simp] theorem Hk:(12<=lim)=True:=by simp[lim]
@[simp] theorem G5:(13<=lim)=True:=by simp[lim]
@[simp] theorem Hc:(14<=lim)=True:=by simp[lim]
@[simp] theorem HC:(15<=lim)=True:=by simp[lim]
@[simp] theorem Hb:(16<=lim)=True:=by simp[lim]
theorem bR{n:Nat}(h:n<=1000000):n<=lim:=by unfold lim;omega
theorem n9{n:Nat}(h:n<=1000000):n<lim:=by unfold lim;omega
theorem ll{α:Type}(xs:List α)(k:Nat):atP xs (k:Int)=xs[k]?:=by
 unfold atP ixP
 by_cases h:k<xs.length
 . simp[h]
 . simp[h]
@[simp] theorem HP{α:Type}(xs:List α):atP xs 0=xs[0]?:=ll xs 0
@[simp] theorem HI{α:Type}(xs:List α):atP xs 1=xs[1]?:=ll xs 1
@[simp] theorem Gj{α:Type}(xs:List α)(n:Nat):atP xs (no_index (OfNat.ofNat n:Int))=xs[n]?:=ll xs n
theorem vg{α:Type}(xs:List α)(i:Int)(h:0<=i):atP xs i=xs[i.toNat]?:=by
 have:=ll xs i.toNat
 rwa [Int.toNat_of_nonneg h]at this
@[simp] theorem HX(T:String)(ma:ag->OE)(ρ:ag):mIs T ma ρ=(ma ρ).bind fun a=>oE ((isP T a.pv).map fun b=>.sh (.bl b)):=rfl
@[simp] theorem DW(ns:List Int):nL (ns.map .int)=some ns:=by
  induction ns with
  |nil=>rfl
  |cons n ns ih=>show(nL (ns.map .int)).map (n ::·)=_;rw[ih];rfl
@[simp] theorem ub(ns:List Bool):kW (ns.map .bl)=some ns:=by
  induction ns with
  |nil=>rfl
  |cons n ns ih=>show(kW (ns.map .bl)).map (n ::·)=_;rw[ih];rfl
@[simp] theorem Ec(n:Nat):(bX n).length=n:=by simp[bX]
theorem fZ{me:ag->OE}{ρ:ag}{α:Type}{g:α->PV}{f:α->PV}(l:List α)(h:∀ a∈l,me (ρ++[some (.sh (g a))])=.ok (.sh (f a))):cf me ρ (l.map g)=.ok (l.map f):=by
 induction l with
 |nil=>rfl
 | cons a l ih=>
   have h1:=h a (List.mem_cons_self)
   have h2:=ih fun b hb=>h b (List.mem_cons_of_mem _ hb)
   simp[cf,h1,h2]
end L2.P
namespace L2.P
open PySem PySem.Spec PyProof.Rows L2 L2.E
mutual
noncomputable def Rep(K:PySem.W.Frag)(S:Hp):PV->V->Prop
 |.non,v=>v=.non
 |.bl b,v=>v=.bl b
 |.int i,v=>v=.int i
 |.str s,v=>v=.str s
 |.lst xs,v=>∃ p vs,v=.ref p /\ SqL K S p vs /\ bq K S xs vs
 |.tup xs,v=>∃ p vs,v=.ref p /\ SqT K S p vs /\ bq K S xs vs
noncomputable def bq(K:PySem.W.Frag)(S:Hp):List PV->List V->Prop
 |[],vs=>vs=[]
 |x ::xs,vs=>∃ v r,vs=v ::r /\ Rep K S x v /\ bq K S xs r
end
theorem _root_.L2.ay.tup{K:PySem.W.Frag}(e:ay H H')(h:SqT K H a xs):SqT K H' a xs:=by
 rcases h with(h|⟨o,h⟩)|h
 . exact .inl (.inl (e _ _ h))
 . exact .inl (.inr ⟨o,e _ _ h⟩)
 . exact .inr h
section
variable{K:PySem.W.Frag}{S S':Hp}
mutual
theorem Rep.mono(s:ay S S'):∀{x:PV} {v:V},Rep K S x v->Rep K S' x v
 |.non,_,h=>by unfold Rep at h ⊢;exact h
 |.bl _,_,h=>by unfold Rep at h ⊢;exact h
 |.int _,_,h=>by unfold Rep at h ⊢;exact h
 |.str _,_,h=>by unfold Rep at h ⊢;exact h
 | .lst _,_,h=>by
   unfold Rep at h ⊢
   obtain⟨p,vs,e,q,r⟩:=h
   exact⟨p,vs,e,ay.seq s q,bq.mono s r⟩
 | .tup _,_,h=>by
   unfold Rep at h ⊢
   obtain⟨p,vs,e,q,r⟩:=h
   exact⟨p,vs,e,ay.tup s q,bq.mono s r⟩
theorem bq.mono(s:ay S S'):∀{xs:List PV} {vs:List V},bq K S xs vs->bq K S' xs vs
 |[],_,h=>by unfold bq at h ⊢;exact h
 | _ ::_,_,h=>by
   unfold bq at h ⊢
   obtain⟨v,r,e,q,t⟩:=h
   exact⟨v,r,e,Rep.mono s q,bq.mono s t⟩
end
theorem bq.nil:bq K S [] []:=by unfold bq;rfl
theorem bq.cons(h:Rep K S x v)(t:bq K S xs vs):bq K S (x ::xs) (v ::vs):=by unfold bq;exact⟨v,vs,rfl,h,t⟩
theorem bq.nil_inv(h:bq K S [] vs):vs=[]:=by unfold bq at h;exact h
theorem bq.cons_inv(h:bq K S (x ::xs) vs):∃ v r,vs=v ::r /\ Rep K S x v /\ bq K S xs r:=by unfold bq at h;exact h
theorem bq.append(h:bq K S xs vs)(t:bq K S ys us):bq K S (xs++ys) (vs++us):=by
 induction xs generalizing vs with
 |nil=>rw[h.nil_inv];exact t
 | cons x xs ih=>
   obtain⟨v,r,rfl,q,h'⟩:=h.cons_inv;exact .cons q (ih h')
theorem bq.length{xs:List PV}{vs:List V}(h:bq K S xs vs):vs.length=xs.length:=by
 induction xs generalizing vs with
 |nil=>rw[h.nil_inv];rfl
 | cons x xs ih=>
   obtain⟨v,r,rfl,q,h'⟩:=h.cons_inv;simp[ih h']
theorem bq.get(h:bq K S xs vs):∀{i:Nat} {x:PV},xs[i]?=some x->∃ v,vs[i]?=some v /\ Rep K S x v:=by
 induction xs generalizing vs with
 |nil=>intro i x e;simp at e
 | cons y xs ih=>
   obtain⟨v,r,rfl,q,h'⟩:=h.cons_inv;intro i x e
   cases i with
   |zero=>simp at e;subst e;exact⟨v,rfl,q⟩
   |succ i=>simp at e;obtain⟨u,e1,e2⟩:=ih h' e;exact⟨u,by simpa using e1,e2⟩
theorem bq.FX{xs:List PV}{vs:List V}(h:bq K S xs vs){i:Nat}{v:V}(e:vs[i]?=some v):∃ x,xs[i]?=some x /\ Rep K S x v:=by
 have hi:i<xs.length:=by rw[<- h.length];exact(List.getElem?_eq_some_iff.mp e).1
 obtain⟨u,e1,e2⟩:=h.get (i:=i) (x:=xs[i]) (by simp[hi]);rw[e]at e1;cases e1
 exact⟨_,by simp[hi],e2⟩
theorem bq.take{xs:List PV}{vs:List V}(h:bq K S xs vs):∀ n,bq K S (xs.take n) (vs.take n):=by
 induction xs generalizing vs with
 |nil=>intro n;rw[h.nil_inv];simpa using bq.nil
 | cons y xs ih=>
   obtain⟨v,r,rfl,q,h'⟩:=h.cons_inv;intro n
   cases n with
   |zero=>exact .nil
   |succ n=>exact .cons q (ih h' n)
theorem bq.drop{xs:List PV}{vs:List V}(h:bq K S xs vs):∀ n,bq K S (xs.drop n) (vs.drop n):=by
 induction xs generalizing vs with
 |nil=>intro n;rw[h.nil_inv];simpa using bq.nil
 | cons y xs ih=>
   obtain⟨v,r,rfl,q,h'⟩:=h.cons_inv;intro n
   cases n with
   |zero=>exact .cons q h'
   |succ n=>exact ih h' n
theorem bq.ints{ns:List Int}:bq K S (ns.map .int) (ns.map V.int):=by
 induction ns with
 |nil=>exact .nil
 |cons n ns ih=>exact .cons (by unfold Rep;rfl) ih
theorem bq.uj{ns:List Int}(h:bq K S (ns.map .int) vs):vs=ns.map V.int:=by
 induction ns generalizing vs with
 |nil=>exact h.nil_inv
 | cons n ns ih=>
   obtain⟨v,r,rfl,q,h'⟩:=h.cons_inv;unfold Rep at q;rw[ih h',q];rfl
end
noncomputable def kh(K:PySem.W.Frag)(cls:String->Option Addr)(S H:Hp)(c:String)(fs:XF)(a C:Addr):Prop:=
 cls c=some C /\ ∃ dx,H a=some (tJ a C dx) /\ (fs=[] \/ ∃ d us,dx=some d /\ H d=some (.xd us) /\ fs.map (·.1)=us.map (·.1) /\ bq K S (fs.map (·.2)) (us.map (·.2)))
noncomputable def isX:HO->Bool
 |.ext _=>true
 |.xd _=>true
 |_=>false
noncomputable def gb(K:PySem.W.Frag)(S:Hp)(kvs:List (Int×PV))(us:List (Key×V)):Prop:=Paired (fun (p:Int×PV) (q:Key×V)=>q.1=Sum.inl p.1 /\ Rep K S p.2 q.2) kvs us
noncomputable def uq(K:PySem.W.Frag)(S:Hp)(kvs:List (List Int×PV))(us:List (List Key×V)):Prop:=Paired (fun (p:List Int×PV) (q:List Key×V)=>q.1=p.1.map Sum.inl /\ Rep K S p.2 q.2) kvs us
theorem gb.mono{K:PySem.W.Frag}(s:ay S S'):∀{kvs:List (Int×PV)} {us:List (Key×V)},gb K S kvs us->gb K S' kvs us
 |_,_,.nil=>.nil
 |_,_,.cons h t=>.cons ⟨h.1,Rep.mono s h.2⟩ (gb.mono s t)
theorem uq.mono{K:PySem.W.Frag}(s:ay S S'):∀{kvs:List (List Int×PV)} {us:List (List Key×V)},uq K S kvs us->uq K S' kvs us
 |_,_,.nil=>.nil
 |_,_,.cons h t=>.cons ⟨h.1,Rep.mono s h.2⟩ (uq.mono s t)
mutual
noncomputable def aX(K:PySem.W.Frag)(cls:String->Option Addr)(S H:Hp):OV->V->List Addr->Prop
 |.sh x,v,fp=>fp=[] /\ Rep K S x v
 |.ol ts,v,fp=>∃ p vs f,v=.ref p /\ H p=some (.lst vs) /\ fp=p ::f /\ aU K cls S H ts vs f
 |.ob c ks ts,v,fp=>∃ p C dx us f,v=.ref p /\ cls c=some C /\ H p=some (.ins C dx us) /\ H dx=some (.own p) /\ us.map (·.1)=ks /\ fp=p ::dx ::f /\ aU K cls S H ts (us.map (·.2)) f
 |.di kvs,v,fp=>∃ p us,v=.ref p /\ H p=some (.dK us) /\ fp=[p] /\ gb K S kvs us
 |.dt kvs,v,fp=>∃ p us,v=.ref p /\ H p=some (.dT us) /\ fp=[p] /\ uq K S kvs us
noncomputable def aU(K:PySem.W.Frag)(cls:String->Option Addr)(S H:Hp):List OV->List V->List Addr->Prop
 |[],vs,fp=>vs=[] /\ fp=[]
 |t ::ts,vs,fp=>∃ v r f1 f2,vs=v ::r /\ fp=f1++f2 /\ aX K cls S H t v f1 /\ aU K cls S H ts r f2
end
noncomputable def oK(K:PySem.W.Frag)(cls:String->Option Addr)(Av G S H:Hp)(i:Nat):Sl->V->List Addr->Prop
 |.sh x,v,fp=>fp=[] /\ Rep K S x v
 |.ow xs,v,fp=>∃ p vs,v=.ref p /\ fp=[p] /\ G p=none /\ S p=none /\ H p=some (.lst vs) /\ bq K S xs vs
 |.ex c fs,v,fp=>fp=[] /\ ∃ a C,v=.ref a /\ kh K cls S H c fs a C
 |.tr io t,v,fp=>aX K cls S H t v fp /\ fp.Nodup /\ (∀ a∈fp,G a=none /\ S a=none) /\ (io=true->Av i=some (.lst [v]))
 |.bo t,v,fp=>fp=[] /\ ∃ f,aX K cls S G t v f
noncomputable def Cs(K:PySem.W.Frag)(cls:String->Option Addr)(G S H:Hp):Sl->V->Prop
 |.sh x,v=>Rep K S x v
 |.ow xs,v=>∃ p vs,v=.ref p /\ G p=none /\ S p=none /\ H p=some (.lst vs) /\ bq K S xs vs
 |.ex c fs,v=>∃ a C,v=.ref a /\ kh K cls S H c fs a C
 |_,_=>True
noncomputable def jn(K:PySem.W.Frag)(B S H:Hp):RV->V->Prop
 |.sh x,v=>Rep K S x v
 |.fr xs,v=>∃ p vs,v=.ref p /\ B p=none /\ S p=none /\ H p=some (.lst vs) /\ bq K S xs vs
 |.al xs,v=>∃ p vs,v=.ref p /\ SqL K H p vs /\ bq K S xs vs
noncomputable def RdV(K:PySem.W.Frag)(S H:Hp):PV->V->Prop
 |.lst xs,v=>∃ p vs,v=.ref p /\ SqL K H p vs /\ bq K S xs vs
 |x,v=>Rep K S x v
structure SRF(K:PySem.W.Frag)(cls:String->Option Addr)(Av G S₀:Hp)(ρ:ag)(σ:St)(S H:Hp)(F:Nat->List Addr):Prop where
 gh:ay G H
 s0:ay S₀ S
 sh:ay S H
 new:∀ b,S b≠none->S₀ b≠none \/ G b=none
 own:∀(i:Nat) (s:Sl),ρ[i]?=some (some s)->∃ v,σ[i]?=some (some v) /\ oK K cls Av G S H i s v (F i)
 apart:∀ i j a,a∈F i->a∈F j->i=j
 live:∀ i a,a∈F i->(∃ o,H a=some o /\ isX o=false) /\ G a=none /\ S a=none
 len:ρ.length=σ.length
noncomputable def SR(K:PySem.W.Frag)(cls:String->Option Addr)(Av G S₀:Hp)(ρ:ag)(σ:St)(S H:Hp):Prop:=∃ F,SRF K cls Av G S₀ ρ σ S H F
section
variable{K:PySem.W.Frag}{cls:String->Option Addr}{Av G S₀ S S' H H' B:Hp}{ρ:ag}{σ:St}{F:Nat->List Addr}
theorem SR.gh(I:SR K cls Av G S₀ ρ σ S H):ay G H:=let ⟨_,J⟩:=I;J.gh
theorem SR.s0(I:SR K cls Av G S₀ ρ σ S H):ay S₀ S:=let ⟨_,J⟩:=I;J.s0
theorem SR.sh(I:SR K cls Av G S₀ ρ σ S H):ay S H:=let ⟨_,J⟩:=I;J.sh
theorem SR.new(I:SR K cls Av G S₀ ρ σ S H):∀ b,S b≠none->S₀ b≠none \/ G b=none:=let ⟨_,J⟩:=I;J.new
theorem SR.len(I:SR K cls Av G S₀ ρ σ S H):ρ.length=σ.length:=let ⟨_,J⟩:=I;J.len
theorem oK.one(h:oK K cls Av G S H i s v fp):Cs K cls G S H s v:=by
 cases s with
 |sh x=>exact h.2
 |ow xs=>obtain⟨p,vs,e,_,r⟩:=h;exact⟨p,vs,e,r⟩
 |ex c fs=>exact h.2
 |tr io t=>trivial
 |bo t=>trivial
theorem SR.good(I:SR K cls Av G S₀ ρ σ S H)(i:Nat)(s:Sl)(e:ρ[i]?=some (some s)):∃ v,σ[i]?=some (some v) /\ Cs K cls G S H s v:=by
 obtain⟨F,J⟩:=I;obtain⟨v,e1,r⟩:=J.own i s e
 exact⟨v,e1,r.one⟩
theorem kh.mono(h:kh K cls S H c fs a C)(s:ay S S')(g:ay H H'):kh K cls S' H' c fs a C:=by
 obtain⟨h1,dx,h2,h3⟩:=h
 refine⟨h1,dx,g _ _ h2,?_⟩
 rcases h3 with h3|⟨d,us,e1,e2,e3,e4⟩
 . exact .inl h3
 . exact .inr ⟨d,us,e1,g _ _ e2,e3,e4.mono s⟩
theorem kh.Ga(h:kh K cls S H c fs a C)(s:ay S S')(g:∀ b o,isX o=true->H b=some o->H' b=some o):kh K cls S' H' c fs a C:=by
 obtain⟨h1,dx,h2,h3⟩:=h
 refine⟨h1,dx,g _ _ rfl h2,?_⟩
 rcases h3 with h3|⟨d,us,e1,e2,e3,e4⟩
 . exact .inl h3
 . exact .inr ⟨d,us,e1,g _ _ rfl e2,e3,e4.mono s⟩
mutual
theorem aX.mono(s:ay S S'):∀{t:OV} {v:V} {fp:List Addr},aX K cls S H t v fp->(∀ a∈fp,∀ o,H a=some o->H' a=some o)->aX K cls S' H' t v fp
 |.sh _,_,_,h,_=>by unfold aX at h ⊢;exact⟨h.1,Rep.mono s h.2⟩
 | .ol _,_,_,h,g=>by
   unfold aX at h ⊢
   obtain⟨p,vs,f,e,q,e2,r⟩:=h;subst e2
   exact⟨p,vs,f,e,g p (by simp) _ q,rfl,aU.mono s r fun a ha=>g a (by simp[ha])⟩
 | .ob _ _ _,_,_,h,g=>by
   unfold aX at h ⊢
   obtain⟨p,C,dx,us,f,e,c,q,q2,k,e2,r⟩:=h;subst e2
   exact⟨p,C,dx,us,f,e,c,g p (by simp) _ q,g dx (by simp) _ q2,k,rfl,aU.mono s r fun a ha=>g a (by simp[ha])⟩
 | .di _,_,_,h,g=>by
   unfold aX at h ⊢
   obtain⟨p,us,e,q,e2,r⟩:=h;subst e2
   exact⟨p,us,e,g p (by simp) _ q,rfl,r.mono s⟩
 | .dt _,_,_,h,g=>by
   unfold aX at h ⊢
   obtain⟨p,us,e,q,e2,r⟩:=h;subst e2
   exact⟨p,us,e,g p (by simp) _ q,rfl,r.mono s⟩
theorem aU.mono(s:ay S S'):∀{ts:List OV} {vs:List V} {fp:List Addr},aU K cls S H ts vs fp->(∀ a∈fp,∀ o,H a=some o->H' a=some o)->aU K cls S' H' ts vs fp
 |[],_,_,h,_=>by unfold aU at h ⊢;exact h
 | _ ::_,_,_,h,g=>by
   unfold aU at h ⊢
   obtain⟨v,r,f1,f2,e,e2,q,t⟩:=h;subst e2
   exact⟨v,r,f1,f2,e,rfl,aX.mono s q fun a ha=>g a (List.mem_append_left _ ha),aU.mono s t fun a ha=>g a (List.mem_append_right _ ha)⟩
end
mutual
theorem aX.live:∀{t:OV} {v:V} {fp:List Addr},aX K cls S H t v fp->∀ a∈fp,∃ o,H a=some o /\ isX o=false
 |.sh _,_,_,h,a,ha=>by unfold aX at h;rw[h.1]at ha;cases ha
 | .ol _,_,_,h,a,ha=>by
   unfold aX at h;obtain⟨p,vs,f,e,q,e2,r⟩:=h;subst e2
   rcases List.mem_cons.mp ha with z|z
   . subst z;exact⟨_,q,rfl⟩
   . exact aU.live r a z
 | .ob _ _ _,_,_,h,a,ha=>by
   unfold aX at h;obtain⟨p,C,dx,us,f,e,c,q,q2,k,e2,r⟩:=h;subst e2
   rcases List.mem_cons.mp ha with z|z
   . subst z;exact⟨_,q,rfl⟩
   . rcases List.mem_cons.mp z with z|z
     . subst z;exact⟨_,q2,rfl⟩
     . exact aU.live r a z
 | .di _,_,_,h,a,ha=>by
   unfold aX at h;obtain⟨p,us,e,q,e2,r⟩:=h;subst e2
   have z:a=p:=by simpa using ha
   subst z
   exact⟨_,q,rfl⟩
 | .dt _,_,_,h,a,ha=>by
   unfold aX at h;obtain⟨p,us,e,q,e2,r⟩:=h;subst e2
   have z:a=p:=by simpa using ha
   subst z
   exact⟨_,q,rfl⟩
theorem aU.live:∀{ts:List OV} {vs:List V} {fp:List Addr},aU K cls S H ts vs fp->∀ a∈fp,∃ o,H a=some o /\ isX o=false
 |[],_,_,h,a,ha=>by unfold aU at h;rw[h.2]at ha;cases ha
 | _ ::_,_,_,h,a,ha=>by
   unfold aU at h;obtain⟨v,r,f1,f2,e,e2,q,t⟩:=h;subst e2
   rcases List.mem_append.mp ha with z|z
   . exact aX.live q a z
   . exact aU.live t a z
end
theorem oK.mono(h:oK K cls Av G S H i sl v fp)(s:ay S S')(g:∀ a∈fp,∀ o,H a=some o->H' a=some o)(x:∀ b o,isX o=true->H b=some o->H' b=some o)(n:∀ a∈fp,S' a=none):oK K cls Av G S' H' i sl v fp:=by
 cases sl with
 |sh y=>exact⟨h.1,Rep.mono s h.2⟩
 | ow xs=>
   obtain⟨p,vs,e,e2,h1,h2,h3,h4⟩:=h;subst e2
   exact⟨p,vs,e,rfl,h1,n p (by simp),g p (by simp) _ h3,h4.mono s⟩
 |ex c fs=>obtain⟨e,a,C,e2,q⟩:=h;exact⟨e,a,C,e2,q.Ga s x⟩
 |tr io t=>exact⟨h.1.mono s g,h.2.1,fun a ha=>⟨(h.2.2.1 a ha).1,n a ha⟩,h.2.2.2⟩
 |bo t=>obtain⟨e,f,r⟩:=h;exact⟨e,f,r.mono s fun _ _ _ z=>z⟩
theorem RdV.mono(h:RdV K S H x v)(s:ay S S')(g:ay H H'):RdV K S' H' x v:=by
 cases x with
 |lst xs=>obtain⟨p,vs,e,q,r⟩:=h;exact⟨p,vs,e,ay.seq g q,r.mono s⟩
 |non=>exact Rep.mono s h
 |bl b=>exact Rep.mono s h
 |int i=>exact Rep.mono s h
 |str x=>exact Rep.mono s h
 |tup xs=>exact Rep.mono s h
theorem Rep.rd(h:Rep K S x v)(g:ay S H):RdV K S H x v:=by
 cases x with
 |lst xs=>unfold Rep at h;obtain⟨p,vs,e,q,r⟩:=h;exact⟨p,vs,e,ay.seq g q,r⟩
 |non=>exact h
 |bl b=>exact h
 |int i=>exact h
 |str x=>exact h
 |tup xs=>exact h
theorem jn.rd{r:RV}(h:jn K B S H r v)(g:ay S H):RdV K S H r.pv v:=by
 cases r with
 |sh x=>exact Rep.rd h g
 |fr xs=>obtain⟨p,vs,e,_,_,q,r⟩:=h;exact⟨p,vs,e,SqL.new q,r⟩
 |al xs=>exact h
theorem SRF.change(I:SRF K cls Av G S₀ ρ σ S H F)(gh:ay G H')(s:ay S S')(sh:ay S' H')(new:∀ b,S' b≠none->S₀ b≠none \/ G b=none)
  (g:∀ i a,a∈F i->∀ o,H a=some o->H' a=some o) (x:∀ b o,isX o=true->H b=some o->H' b=some o) (n:∀ i a,a∈F i->S' a=none):SRF K cls Av G S₀ ρ σ S' H' F where
 gh:=gh
 s0:=I.s0.trans s
 sh:=sh
 new:=new
 own:=fun i t e=>by
  obtain⟨v,e1,r⟩:=I.own i t e
  exact⟨v,e1,r.mono s (fun a ha=>g i a ha) x fun a ha=>n i a ha⟩
 apart:=I.apart
 live:=fun i a ha=>by
  obtain⟨⟨o,h1,h2⟩,h3,_⟩:=I.live i a ha
  exact⟨⟨o,g i a ha o h1,h2⟩,h3,n i a ha⟩
 len:=I.len
theorem SRF.same(I:SRF K cls Av G S₀ ρ σ S H F)(g:ay H H'):SRF K cls Av G S₀ ρ σ S H' F:=
 I.change (I.gh.trans g) (ay.refl _) (I.sh.trans g) I.new (fun _ _ _ o e=>g _ _ e) (fun _ _ _ e=>g _ _ e) fun i a ha=>(I.live i a ha).2.2
theorem SR.same(I:SR K cls Av G S₀ ρ σ S H)(g:ay H H'):SR K cls Av G S₀ ρ σ S H':=let ⟨F,J⟩:=I;⟨F,J.same g⟩
theorem set_inv{α:Type}{l:List (Option α)}{x:Option α}{s:α}(h:(l.set i x)[j]?=some (some s)):(j=i /\ x=some s /\ i<l.length) \/ (j≠i /\ l[j]?=some (some s)):=by
 by_cases e:j=i
 . subst e;rw[List.getElem?_set]at h;simp only[if_true]at h;split at h
   . rename_i hl;exact .inl ⟨rfl,Option.some.inj h,hl⟩
   . cases h
 . rw[List.getElem?_set_ne (Ne.symm e)]at h;exact .inr ⟨e,h⟩
theorem Eo{α:Type}{l:List (Option α)}{x:Option α}(h:i<l.length):(l.set i x)[i]?=some x:=by
 rw[List.getElem?_set];simp[h]
noncomputable def jA(F:Nat->List Addr)(i:Nat)(fp:List Addr):Nat->List Addr:=fun j=>if j=i then fp else F j
theorem fQ:jA F i fp i=fp:=by unfold jA;rw[if_pos rfl]
theorem cX(h:j≠i):jA F i fp j=F j:=by unfold jA;rw[if_neg h]
theorem SRF.put(I:SRF K cls Av G S₀ ρ σ S H F)(h:∀ t,s=some t->∃ v,u=some v /\ oK K cls Av G S H i t v fp)
  (hl:∀ a∈fp,(∃ o,H a=some o /\ isX o=false) /\ G a=none /\ S a=none) (ap:∀ j a,j≠i->a∈fp->a∉F j):SRF K cls Av G S₀ (ρ.set i s) (σ.set i u) S H (jA F i fp) where
 gh:=I.gh
 s0:=I.s0
 sh:=I.sh
 new:=I.new
 own:=fun j t e=>by
  rcases set_inv e with⟨rfl,e1,hl⟩|⟨ne,e1⟩
  . obtain⟨v,e2,r⟩:=h t e1
    exact⟨v,by rw[Eo (by rw[<- I.len];exact hl),e2],by rw[fQ];exact r⟩
  . rw[List.getElem?_set_ne (Ne.symm ne),cX ne];exact I.own j t e1
 apart:=fun j k a h1 h2=>by
  by_cases ej:j=i
  . by_cases ek:k=i
    . rw[ej,ek]
    . subst ej;rw[fQ]at h1;rw[cX ek]at h2;exact absurd h2 (ap k a ek h1)
  . by_cases ek:k=i
    . subst ek;rw[fQ]at h2;rw[cX ej]at h1;exact absurd h1 (ap j a ej h2)
    . rw[cX ej]at h1;rw[cX ek]at h2;exact I.apart j k a h1 h2
 live:=fun j a ha=>by
  by_cases ej:j=i
  . subst ej;rw[fQ]at ha;exact hl a ha
  . rw[cX ej]at ha;exact I.live j a ha
 len:=by simp[I.len]
theorem SR.wj(I:SR K cls Av G S₀ ρ σ S H)(h:Rep K S x v):SR K cls Av G S₀ (ρ.set i (some (.sh x))) (σ.set i (some v)) S H:=by
 obtain⟨F,J⟩:=I
 exact⟨_,J.put (fp:=[]) (fun t e=>by cases e;exact⟨v,rfl,rfl,h⟩) (fun a ha=>nomatch ha) fun j a _ ha=>nomatch ha⟩
theorem SR.Fl(I:SR K cls Av G S₀ ρ σ S H):SR K cls Av G S₀ (ρ.set i none) (σ.set i v) S H:=by
 obtain⟨F,J⟩:=I
 exact⟨_,J.put (fp:=[]) (fun t e=>nomatch e) (fun a ha=>nomatch ha) fun j a _ ha=>nomatch ha⟩
theorem il{α:Type}{l:List α}{x:α}(h:l[i]?=some x):l.set i x=l:=by
 apply List.ext_getElem?;intro j
 by_cases e:i=j
 . subst e;rw[List.getElem?_set,if_pos rfl,if_pos (List.getElem?_eq_some_iff.mp h).1,h]
 . rw[List.getElem?_set_ne e]
theorem SR.drop(I:SR K cls Av G S₀ ρ σ S H):SR K cls Av G S₀ (ρ.set i none) σ S H:=by
 cases e:σ[i]? with
 |some v=>have:=I.Fl (i:=i) (v:=v);rwa [il e]at this
 | none=>
   have h1:σ.length<=i:=List.getElem?_eq_none_iff.mp e
   rw[List.set_eq_of_length_le (by rw[I.len];exact h1)];exact I
theorem SR.mut(I:SR K cls Av G S₀ ρ σ S H)(hi:ρ[i]?=some (some (.ow xs)))(hv:σ[i]?=some (some (.ref p)))(hr:bq K S ys us):SR K cls Av G S₀ (ρ.set i (some (.ow ys))) σ S (upd H p (.lst us)):=by
 obtain⟨F,J⟩:=I;obtain⟨v,e1,q,vs,e2,e3,hG,hS,hH,_⟩:=J.own i _ hi;rw[hv]at e1;cases e1;cases e2
 have J1:SRF K cls Av G S₀ (ρ.set i none) (σ.set i none) S H (jA F i []):=J.put (fun t e=>nomatch e) (fun a ha=>nomatch ha) fun j a _ ha=>nomatch ha
 have off:∀ j a,a∈jA F i [] j->a≠p:=fun j a ha z=>by
  by_cases ej:j=i
  . subst ej;rw[fQ]at ha;cases ha
  . rw[cX ej]at ha;exact ej (J.apart j i a ha (by rw[e3,z];simp))
 have J2:=J1.change (H':=upd H p (.lst us)) (J.gh.upd hG) (ay.refl _) (J.sh.upd hS) J.new (fun j a ha o h=>by rw[bj (off j a ha)];exact h)
  (fun b o hx h=>by
    rw[bj]
    . exact h
    . intro z;rw[z,hH]at h;cases h;cases hx)
  fun j a ha=>(J1.live j a ha).2.2
 have J3:=J2.put (i:=i) (s:=some (.ow ys)) (u:=some (.ref p)) (fp:=[p]) (fun t e=>by cases e;exact⟨_,rfl,p,us,rfl,rfl,hG,hS,aY,hr⟩) (fun a ha=>by
  have z:a=p:=by simpa using ha
  subst z
  exact⟨⟨_,aY,rfl⟩,hG,hS⟩) fun j a hj ha hz=>by
   have z:a=p:=by simpa using ha
   exact off j a hz z
 rw[List.set_set,List.set_set,il hv]at J3
 exact⟨_,J3⟩
theorem SR.FP(I:SR K cls Av G S₀ ρ σ S H)(hi:ρ[i]?=some (some (.ow xs))):∃ S',ay S S' /\ SR K cls Av G S₀ (ρ.set i (some (.sh (.lst xs)))) σ S' H:=by
 obtain⟨F,J⟩:=I;obtain⟨v,hv,p,vs,e2,e3,hG,hS,hH,hr⟩:=J.own i _ hi;subst e2
 have J1:SRF K cls Av G S₀ (ρ.set i none) (σ.set i none) S H (jA F i []):=J.put (fun t e=>nomatch e) (fun a ha=>nomatch ha) fun j a _ ha=>nomatch ha
 have off:∀ j a,a∈jA F i [] j->a≠p:=fun j a ha z=>by
  by_cases ej:j=i
  . subst ej;rw[fQ]at ha;cases ha
  . rw[cX ej]at ha;exact ej (J.apart j i a ha (by rw[e3,z];simp))
 have J2:=J1.change (S':=upd S p (.lst vs)) (H':=H) J.gh (ay.new hS) (fun b u h=>by
   by_cases e:b=p
   . subst e;rw[aY]at h;cases h;exact hH
   . rw[bj e]at h;exact J.sh b u h) (fun b h=>by
   by_cases e:b=p
   . subst e;exact .inr hG
   . rw[bj e]at h;exact J.new b h) (fun _ _ _ _ h=>h) (fun _ _ _ h=>h) fun j a ha=>by
     rw[bj (off j a ha)];exact(J1.live j a ha).2.2
 have J3:=J2.put (i:=i) (s:=some (.sh (.lst xs))) (u:=some (.ref p)) (fp:=[]) (fun t e=>by
  cases e
  refine⟨_,rfl,rfl,?_⟩
  unfold Rep
  exact⟨p,vs,rfl,SqL.new aY,hr.mono (ay.new hS)⟩) (fun a ha=>nomatch ha) fun j a _ ha=>nomatch ha
 rw[List.set_set,List.set_set,il hv]at J3
 exact⟨_,ay.new hS,_,J3⟩
end
structure aL(S H S' H':Hp):Prop where
 s:ay S S'
 g:ay H H'
 sh:ay S' H'
 new:∀ b,S' b≠none->S b≠none \/ H b=none
theorem aL.refl(h:ay S H):aL S H S H:=⟨ay.refl _,ay.refl _,h,fun _ z=>.inl z⟩
theorem aL.trans(a:aL S H S1 H1)(b:aL S1 H1 S2 H2):aL S H S2 H2:=
 ⟨a.s.trans b.s,a.g.trans b.g,b.sh,fun x h=>by
   rcases b.new x h with z|z
   . exact a.new x z
   . exact .inr (a.g.free z)⟩
theorem SRF.grow{K:PySem.W.Frag}{cls:String->Option Addr}{F:Nat->List Addr}(I:SRF K cls Av G S₀ ρ σ S H F)(w:aL S H S' H'):SRF K cls Av G S₀ ρ σ S' H' F:=
 I.change (I.gh.trans w.g) w.s w.sh (fun b h=>by
  rcases w.new b h with z|z
  . exact I.new b z
  . exact .inr (I.gh.free z)) (fun i a _ o h=>w.g _ _ h) (fun b o _ h=>w.g _ _ h) fun i a ha=>by
    obtain⟨⟨o,h1,_⟩,_,h3⟩:=I.live i a ha
    cases q:S' a with
    |none=>rfl
    | some o=>
      rcases w.new a (by rw[q];simp)with z|z
      . exact absurd h3 z
      . rw[h1]at z;cases z
theorem SR.grow{K:PySem.W.Frag}{cls:String->Option Addr}(I:SR K cls Av G S₀ ρ σ S H)(w:aL S H S' H'):SR K cls Av G S₀ ρ σ S' H':=let ⟨F,J⟩:=I;⟨F,J.grow w⟩
theorem SR.FQ{K:PySem.W.Frag}{cls:String->Option Addr}{ρ:ag}{σ:St}(I:SR K cls Av G S₀ ρ σ S H)(w:aL S H S' H')(h:jn K H S' H' (.fr xs) v):SR K cls Av G S₀ (ρ.set i (some (.ow xs))) (σ.set i (some v)) S' H':=by
 obtain⟨F,J⟩:=I;obtain⟨p,vs,rfl,hB,hS,hH,hr⟩:=h;have hG:=J.gh.free hB
 refine⟨_,(J.grow w).put (fp:=[p]) (fun t e=>by cases e;exact⟨_,rfl,p,vs,rfl,rfl,hG,hS,hH,hr⟩) (fun a ha=>?_) fun j a _ ha hz=>?_⟩
 . have z:a=p:=by simpa using ha
   subst z
   exact⟨⟨_,hH,rfl⟩,hG,hS⟩
 . have z:a=p:=by simpa using ha
   subst z;obtain⟨⟨o,h1,_⟩,_⟩:=J.live j a hz;rw[hB]at h1;cases h1
theorem aL.heap(h:ay S H)(hp:H p=none):aL S H S (upd H p o):=⟨ay.refl _,ay.new hp,h.trans (ay.new hp),fun _ z=>.inl z⟩
theorem aL.both(h:ay S H)(hp:H p=none):aL S H (upd S p o) (upd H p o):=by
 have hS:=h.free hp
 refine⟨ay.new hS,ay.new hp,fun b u z=>?_,fun b z=>?_⟩
 . by_cases e:b=p
   . subst e;rw[aY]at z ⊢;exact z
   . rw[bj e]at z ⊢;exact h b u z
 . by_cases e:b=p
   . subst e;exact .inr hp
   . rw[bj e]at z;exact .inl z
section
variable(K:PySem.W.Frag)(cls:String->Option Addr)(W:XW)
noncomputable def jo(σ:St)(S H:Hp)(Q:VK):OE->Prop
 |.ok r=>∀ v S' H',aL S H S' H'->jn K H S' H' r v->Q v H'
 |.exc c fs=>∀ a C S' H',aL S H S' H'->kh K cls S' H' c fs a C->W (.ref C) (some a) σ H'
 |.bad=>False
noncomputable def oi(σ:St)(S H:Hp)(Q:Bool->Hp->Prop):OT->Prop
 |.ok b=>∀ S' H',aL S H S' H'->Q b H'
 |.exc c fs=>∀ a C S' H',aL S H S' H'->kh K cls S' H' c fs a C->W (.ref C) (some a) σ H'
 |.bad=>False
noncomputable def qY(σ:St)(S H:Hp)(Q:List V->Hp->Prop):OA->Prop
 |.ok xs=>∀ vs S' H',aL S H S' H'->bq K S' xs vs->Q vs H'
 |.exc c fs=>∀ a C S' H',aL S H S' H'->kh K cls S' H' c fs a C->W (.ref C) (some a) σ H'
 |.bad=>False
noncomputable def fM(Av G S₀:Hp)(S:Hp)(D:Ends):OS->Prop
 |.nx ρ=>∀ σ' S' H',SR K cls Av G S₀ ρ σ' S' H'->ay S S'->D.nx σ' H'
 |.bk ρ=>∀ σ' S' H',SR K cls Av G S₀ ρ σ' S' H'->ay S S'->D.bk σ' H'
 |.ct ρ=>∀ σ' S' H',SR K cls Av G S₀ ρ σ' S' H'->ay S S'->D.ct σ' H'
 |.rt ρ r=>∀ v σ' S' H',SR K cls Av G S₀ ρ σ' S' H'->ay S S'->jn K G S' H' r v->D.rt v H'
 |.exc ρ c fs=>∀ a C σ' S' H',SR K cls Av G S₀ ρ σ' S' H'->ay S S'->kh K cls S' H' c fs a C->W (.ref C) (some a) σ' H'
 |.bad=>False
noncomputable def JE(te:TE)(m:ag->OE):Prop:=∀ Av G S₀ ρ σ S H Q,SR K cls Av G S₀ ρ σ S H->jo K cls W σ S H Q (m ρ)->te σ H Q
noncomputable def JT(te:TT)(m:ag->OT):Prop:=∀ Av G S₀ ρ σ S H Q,SR K cls Av G S₀ ρ σ S H->oi K cls W σ S H Q (m ρ)->te σ H Q
noncomputable def JA(te:TA)(m:ag->OA):Prop:=∀ Av G S₀ ρ σ S H Q,SR K cls Av G S₀ ρ σ S H->qY K cls W σ S H Q (m ρ)->te σ H Q
noncomputable def JS(ts:TS)(m:ag->OS):Prop:=∀ Av G S₀ ρ σ S H D,SR K cls Av G S₀ ρ σ S H->fM K cls W Av G S₀ S D (m ρ)->ts D σ H
end
section
variable{K:PySem.W.Frag}{cls:String->Option Addr}{W:XW}{Av G S₀ S S' H H' B B':Hp}{ρ:ag}{σ:St}{Q:VK}
theorem jn.back(h:jn K B' S H r v)(g:ay B B'):jn K B S H r v:=by
 cases r with
 |sh x=>exact h
 |fr xs=>obtain⟨p,vs,e,h1,h2⟩:=h;exact⟨p,vs,e,g.free h1,h2⟩
 |al xs=>exact h
theorem jo.back(w:aL S H S1 H1)(h:jo K cls W σ S H Q o):jo K cls W σ S1 H1 Q o:=by
 cases o with
 |ok r=>exact fun v S' H' w' r=>h v S' H' (w.trans w') (r.back w.g)
 |exc c fs=>exact fun a C S' H' w' r=>h a C S' H' (w.trans w') r
 |bad=>exact h
theorem oi.back{Q:Bool->Hp->Prop}(w:aL S H S1 H1)(h:oi K cls W σ S H Q o):oi K cls W σ S1 H1 Q o:=by
 cases o with
 |ok r=>exact fun S' H' w'=>h S' H' (w.trans w')
 |exc c fs=>exact fun a C S' H' w' r=>h a C S' H' (w.trans w') r
 |bad=>exact h
theorem qY.back{Q:List V->Hp->Prop}(w:aL S H S1 H1)(h:qY K cls W σ S H Q o):qY K cls W σ S1 H1 Q o:=by
 cases o with
 |ok r=>exact fun v S' H' w' r=>h v S' H' (w.trans w') r
 |exc c fs=>exact fun a C S' H' w' r=>h a C S' H' (w.trans w') r
 |bad=>exact h
theorem fM.back(s:ay S S1)(h:fM K cls W Av G S₀ S D o):fM K cls W Av G S₀ S1 D o:=by
 cases o with
 |nx ρ=>exact fun σ' S' H' I s'=>h σ' S' H' I (s.trans s')
 |bk ρ=>exact fun σ' S' H' I s'=>h σ' S' H' I (s.trans s')
 |ct ρ=>exact fun σ' S' H' I s'=>h σ' S' H' I (s.trans s')
 |rt ρ r=>exact fun v σ' S' H' I s'=>h v σ' S' H' I (s.trans s')
 |exc ρ c fs=>exact fun a C σ' S' H' I s'=>h a C σ' S' H' I (s.trans s')
 |bad=>exact h
theorem JE.go{m:ag->OE}{f:RV->OE}(h:JE K cls W te m)(I:SR K cls Av G S₀ ρ σ S H)(p:jo K cls W σ S H Q ((m ρ).bind f))
  (k:∀ r v S1 H1,SR K cls Av G S₀ ρ σ S1 H1->aL S H S1 H1->jn K H S1 H1 r v->jo K cls W σ S1 H1 Q (f r)->Q' v H1):te σ H Q':=by
 refine h Av G S₀ ρ σ S H Q' I ?_
 cases e:m ρ with
 |ok r=>rw[e]at p;exact fun v S1 H1 w r1=>k r v S1 H1 (I.grow w) w r1 (p.back w)
 |exc c fs=>rw[e]at p;exact p
 |bad=>rw[e]at p;exact p
theorem JE.goT{m:ag->OE}{f:RV->OT}{Q:Bool->Hp->Prop}(h:JE K cls W te m)(I:SR K cls Av G S₀ ρ σ S H)(p:oi K cls W σ S H Q ((m ρ).dB f))
  (k:∀ r v S1 H1,SR K cls Av G S₀ ρ σ S1 H1->aL S H S1 H1->jn K H S1 H1 r v->oi K cls W σ S1 H1 Q (f r)->Q' v H1):te σ H Q':=by
 refine h Av G S₀ ρ σ S H Q' I ?_
 cases e:m ρ with
 |ok r=>rw[e]at p;exact fun v S1 H1 w r1=>k r v S1 H1 (I.grow w) w r1 (p.back w)
 |exc c fs=>rw[e]at p;exact p
 |bad=>rw[e]at p;exact p
theorem JE.goS{m:ag->OE}{f:RV->OS}(h:JE K cls W te m)(I:SR K cls Av G S₀ ρ σ S H)(p:fM K cls W Av G S₀ S D ((m ρ).bU ρ f))
  (k:∀ r v S1 H1,SR K cls Av G S₀ ρ σ S1 H1->aL S H S1 H1->jn K H S1 H1 r v->fM K cls W Av G S₀ S1 D (f r)->Q' v H1):te σ H Q':=by
 refine h Av G S₀ ρ σ S H Q' I ?_
 cases e:m ρ with
 |ok r=>rw[e]at p;exact fun v S1 H1 w r1=>k r v S1 H1 (I.grow w) w r1 (p.back w.s)
 |exc c fs=>rw[e]at p;exact fun a C S' H' w x=>p a C σ S' H' (I.grow w) w.s x
 |bad=>rw[e]at p;exact p
theorem JT.go{m:ag->OT}{f:Bool->OE}{Q':Bool->Hp->Prop}(h:JT K cls W te m)(I:SR K cls Av G S₀ ρ σ S H)(p:jo K cls W σ S H Q ((m ρ).bind f))
  (k:∀ b S1 H1,SR K cls Av G S₀ ρ σ S1 H1->aL S H S1 H1->jo K cls W σ S1 H1 Q (f b)->Q' b H1):te σ H Q':=by
 refine h Av G S₀ ρ σ S H Q' I ?_
 cases e:m ρ with
 |ok r=>rw[e]at p;exact fun S1 H1 w=>k r S1 H1 (I.grow w) w (p.back w)
 |exc c fs=>rw[e]at p;exact p
 |bad=>rw[e]at p;exact p
theorem JT.goT{m:ag->OT}{f:Bool->OT}{Q Q':Bool->Hp->Prop}(h:JT K cls W te m)(I:SR K cls Av G S₀ ρ σ S H)(p:oi K cls W σ S H Q ((m ρ).dB f))
  (k:∀ b S1 H1,SR K cls Av G S₀ ρ σ S1 H1->aL S H S1 H1->oi K cls W σ S1 H1 Q (f b)->Q' b H1):te σ H Q':=by
 refine h Av G S₀ ρ σ S H Q' I ?_
 cases e:m ρ with
 |ok r=>rw[e]at p;exact fun S1 H1 w=>k r S1 H1 (I.grow w) w (p.back w)
 |exc c fs=>rw[e]at p;exact p
 |bad=>rw[e]at p;exact p
theorem JT.goS{m:ag->OT}{f:Bool->OS}{Q':Bool->Hp->Prop}(h:JT K cls W te m)(I:SR K cls Av G S₀ ρ σ S H)(p:fM K cls W Av G S₀ S D ((m ρ).bU ρ f))
  (k:∀ b S1 H1,SR K cls Av G S₀ ρ σ S1 H1->aL S H S1 H1->fM K cls W Av G S₀ S1 D (f b)->Q' b H1):te σ H Q':=by
 refine h Av G S₀ ρ σ S H Q' I ?_
 cases e:m ρ with
 |ok r=>rw[e]at p;exact fun S1 H1 w=>k r S1 H1 (I.grow w) w (p.back w.s)
 |exc c fs=>rw[e]at p;exact fun a C S' H' w x=>p a C σ S' H' (I.grow w) w.s x
 |bad=>rw[e]at p;exact p
theorem JA.go{m:ag->OA}{f:List PV->OE}{Q':List V->Hp->Prop}(h:JA K cls W te m)(I:SR K cls Av G S₀ ρ σ S H)(p:jo K cls W σ S H Q ((m ρ).bind f))
  (k:∀ xs vs S1 H1,SR K cls Av G S₀ ρ σ S1 H1->aL S H S1 H1->bq K S1 xs vs->jo K cls W σ S1 H1 Q (f xs)->Q' vs H1):te σ H Q':=by
 refine h Av G S₀ ρ σ S H Q' I ?_
 cases e:m ρ with
 |ok r=>rw[e]at p;exact fun v S1 H1 w r1=>k r v S1 H1 (I.grow w) w r1 (p.back w)
 |exc c fs=>rw[e]at p;exact p
 |bad=>rw[e]at p;exact p
theorem JA.goA{m:ag->OA}{f:List PV->OA}{Q Q':List V->Hp->Prop}(h:JA K cls W te m)(I:SR K cls Av G S₀ ρ σ S H)(p:qY K cls W σ S H Q ((m ρ).dk f))
  (k:∀ xs vs S1 H1,SR K cls Av G S₀ ρ σ S1 H1->aL S H S1 H1->bq K S1 xs vs->qY K cls W σ S1 H1 Q (f xs)->Q' vs H1):te σ H Q':=by
 refine h Av G S₀ ρ σ S H Q' I ?_
 cases e:m ρ with
 |ok r=>rw[e]at p;exact fun v S1 H1 w r1=>k r v S1 H1 (I.grow w) w r1 (p.back w)
 |exc c fs=>rw[e]at p;exact p
 |bad=>rw[e]at p;exact p
theorem ah:JE K cls W (uR i) (ao i):=by
 intro Av G S₀ ρ σ S H Q I p;unfold ao at p;split at p
 . rename_i x e;obtain⟨v,e1,r⟩:=I.good i _ e
   exact⟨v,e1,p v S H (aL.refl I.sh) r⟩
 . rename_i xs e;obtain⟨v,e1,a,vs,e2,_,_,h3,h4⟩:=I.good i _ e
   exact⟨v,e1,p v S H (aL.refl I.sh) ⟨a,vs,e2,SqL.new h3,h4⟩⟩
 . exact p.elim
theorem yH(h:∀ S,Rep K S x v):JE K cls W (tC v) (mC x):=fun Av G S₀ ρ σ S H Q I p=>p v S H (aL.refl I.sh) (h S)
theorem ae:JE K cls W (tC (.int n)) (mC (.int n)):=yH fun _=>by unfold Rep;rfl
theorem gO:JE K cls W (tC (.bl n)) (mC (.bl n)):=yH fun _=>by unfold Rep;rfl
theorem vh:JE K cls W (tC .non) (mC .non):=yH fun _=>by unfold Rep;rfl
theorem b0:JE K cls W (tC (.str n)) (mC (.str n)):=yH fun _=>by unfold Rep;rfl
theorem BF{ns:List Int}(h:∀ S,SqT K S p (ns.map V.int)):JE K cls W (tC (.ref p)) (mC (.tup (ns.map .int))):=yH fun S=>by unfold Rep;exact⟨p,_,rfl,h S,bq.ints⟩
noncomputable def JR(K:PySem.W.Frag)(r:R2)(g:PV->PV->Option RV):Prop:=∀ S H x y v u rr Q,ay S H->RdV K S H x v->RdV K S H y u->g x y=some rr ->
 (∀ z S' H',aL S H S' H'->jn K H S' H' rr z->Q z H')->r v u H Q
theorem aq{g:PV->PV->Option RV}{ma mb:ag->OE}(hr:JR K r g)(ha:JE K cls W ta ma)(hb:JE K cls W tb mb):JE K cls W (tOp r ta tb) (mOp g ma mb):=by
 intro Av G S₀ ρ σ S H Q I p
 refine ha.go I p fun a v S1 H1 I1 w1 r1 p1=>hb.go I1 p1 fun b u S2 H2 I2 w2 r2 p2=>?_
 cases e:g a.pv b.pv with
 |none=>rw[e]at p2;exact p2.elim
 | some rr=>
   rw[e]at p2;exact hr S2 H2 a.pv b.pv v u rr Q I2.sh ((r1.rd I1.sh).mono w2.s w2.g) (r2.rd I2.sh) e p2
noncomputable def sv:PV->V
 |.non=>.non
 |.bl b=>.bl b
 |.int i=>.int i
 |.str s=>.str s
 |_=>.non
theorem cn(h:RdV K S H (.int i) v):v=.int i:=by unfold RdV Rep at h;exact h
theorem kl(h:RdV K S H (.bl i) v):v=.bl i:=by unfold RdV Rep at h;exact h
theorem gK(h:RdV K S H (.str i) v):v=.str i:=by unfold RdV Rep at h;exact h
theorem iu(h:RdV K S H .non v):v=.non:=by unfold RdV Rep at h;exact h
theorem eU(h:RdV K S H (.lst xs) v):∃ p vs,v=.ref p /\ SqL K H p vs /\ bq K S xs vs:=h
theorem jz(h:RdV K S H (.tup xs) v):∃ p vs,v=.ref p /\ SqT K S p vs /\ bq K S xs vs:=by unfold RdV Rep at h;exact h
theorem zb{C:Int->Int->Prop}{c:Int->Int->Bool}{f:Int->Int->PV}{fv:Int->Int->V}(hc:∀ i j,c i j=true->C i j)(hf:∀ S i j,Rep K S (f i j) (fv i j)):JR K (rI C fv) (gI c f):=by
 intro S H x y v u rr Q I hx hy e k;unfold gI at e;split at e
 . rename_i i j;split at e
   . rename_i hcc;cases e
     exact⟨i,j,cn hx,cn hy,hc i j hcc,k _ S H (aL.refl I) (hf S i j)⟩
   . cases e
 . cases e
theorem p7{f:Int->Int->PV}{fv:Int->Int->V}(hf:∀ S i j,Rep K S (f i j) (fv i j)):JR K (rI0 fv) (gI (fun _ _=>true) f):=by
 intro S H x y v u rr Q I hx hy e k;unfold gI at e;split at e
 . rename_i i j;simp only[if_true]at e;cases e
   exact⟨i,j,cn hx,cn hy,k _ S H (aL.refl I) (hf S i j)⟩
 . cases e
theorem bM:JR K (rI0 fun i j=>.int (i+j)) dj:=p7 fun _ _ _=>by unfold Rep;rfl
theorem pS:JR K (rI0 fun i j=>.int (i - j)) uu:=p7 fun _ _ _=>by unfold Rep;rfl
theorem nJ:JR K (rI zu fun i j=>.int (i*j)) tw:=zb (fun i j h=>by simpa [zu,Bool.or_eq_true,Bool.and_eq_true,decide_eq_true_eq]using h) fun _ _ _=>by unfold Rep;rfl
theorem ba:JR K (rI CZ fun i j=>.int (i/j)) b7:=zb (fun i j h=>by simpa [CZ,Bool.and_eq_true,decide_eq_true_eq]using h) fun _ _ _=>by unfold Rep;rfl
theorem aQ:JR K (rI (fun _ j=>0<j) fun i j=>.int (i%j)) bC:=zb (fun i j h=>by simpa using h) fun _ _ _=>by unfold Rep;rfl
theorem pz:JR K (rI0 fun i j=>.bl (decide (i<j))) gLt:=p7 fun _ _ _=>by unfold Rep;rfl
theorem wG:JR K (rI0 fun i j=>.bl (decide (j<i))) gGt:=p7 fun _ _ _=>by unfold Rep;rfl
theorem yr:JR K (rI0 fun i j=>.bl (decide (j<=i))) gGe:=p7 fun _ _ _=>by unfold Rep;rfl
theorem yi(hx:RdV K S H x v)(hy:RdV K S H y u)(e:eqS x y=some b):Dj v u=true /\ decide (v=u)=b:=by
 unfold eqS at e;split at e
 all_goals first
  |(have h1:=iu hx;subst h1;have h2:=iu hy;subst h2;cases e;exact⟨rfl,by simp⟩)
  |(have h1:=iu hx;subst h1;have h2:=cn hy;subst h2;cases e;exact⟨rfl,by simp⟩)
  |(have h1:=cn hx;subst h1;have h2:=iu hy;subst h2;cases e;exact⟨rfl,by simp⟩)
  |(have h1:=iu hx;subst h1;have h2:=kl hy;subst h2;cases e;exact⟨rfl,by simp⟩)
  |(have h1:=kl hx;subst h1;have h2:=iu hy;subst h2;cases e;exact⟨rfl,by simp⟩)
  |(have h1:=iu hx;subst h1;have h2:=gK hy;subst h2;cases e;exact⟨rfl,by simp⟩)
  |(have h1:=gK hx;subst h1;have h2:=iu hy;subst h2;cases e;exact⟨rfl,by simp⟩)
  |(have h1:=cn hx;subst h1;have h2:=cn hy;subst h2;cases e;exact⟨rfl,by simp⟩)
  |(have h1:=kl hx;subst h1;have h2:=kl hy;subst h2;cases e;exact⟨rfl,by simp⟩)
  |(have h1:=gK hx;subst h1;have h2:=gK hy;subst h2;cases e;exact⟨rfl,by simp⟩)
  |(have h1:=cn hx;subst h1;have h2:=gK hy;subst h2;cases e;exact⟨rfl,by simp⟩)
  |(have h1:=gK hx;subst h1;have h2:=cn hy;subst h2;cases e;exact⟨rfl,by simp⟩)
  |(have h1:=kl hx;subst h1;have h2:=gK hy;subst h2;cases e;exact⟨rfl,by simp⟩)
  |(have h1:=gK hx;subst h1;have h2:=kl hy;subst h2;cases e;exact⟨rfl,by simp⟩)
  |cases e
theorem b8:JR K rEq gEq:=by
 intro S H x y v u rr Q I hx hy e k;obtain⟨b,e1,e2⟩:=Option.map_eq_some_iff.mp e;obtain⟨h1,h2⟩:=yi hx hy e1
 refine⟨h1,k _ S H (aL.refl I) ?_⟩
 subst e2;show Rep K S _ _;unfold Rep;rw[h2]
theorem wD:JR K rNe gNe:=by
 intro S H x y v u rr Q I hx hy e k;obtain⟨b,e1,e2⟩:=Option.map_eq_some_iff.mp e;obtain⟨h1,h2⟩:=yi hx hy e1
 refine⟨h1,k _ S H (aL.refl I) ?_⟩
 subst e2;show Rep K S _ _;unfold Rep;rw[h2]
end
section
variable{K:PySem.W.Frag}{cls:String->Option Addr}{W:XW}{Av G S₀ S S' H H' B B':Hp}{ρ:ag}{σ:St}{Q:VK}
theorem jn.share(h:jn K H S1 H1 r v)(w:aL S H S1 H1)(e:fq r=some x):∃ S2,aL S H S2 H1 /\ ay S1 S2 /\ Rep K S2 x v:=by
 cases r with
 |sh y=>cases e;exact⟨S1,w,ay.refl _,h⟩
 |al xs=>cases e
 | fr xs=>
   cases e;obtain⟨p,vs,rfl,hB,hS,hH,hr⟩:=h
   refine⟨upd S1 p (.lst vs),⟨w.s.trans (ay.new hS),w.g,fun b u z=>?_,fun b z=>?_⟩,ay.new hS,?_⟩
   . by_cases e:b=p
     . subst e;rw[aY]at z;cases z;exact hH
     . rw[bj e]at z;exact w.sh b u z
   . by_cases e:b=p
     . subst e;exact .inr hB
     . rw[bj e]at z;exact w.new b z
   . unfold Rep
     exact⟨p,vs,rfl,SqL.new aY,hr.mono (ay.new hS)⟩
theorem az:JA K cls W j1 aK:=fun Av G S₀ ρ σ S H Q I p=>p [] S H (aL.refl I.sh) .nil
theorem ai{me:ag->OE}{mr:ag->OA}(he:JE K cls W te me)(ht:JA K cls W t mr):JA K cls W (fJ te t) (ak me mr):=by
 intro Av G S₀ ρ σ S H Q I p;refine he Av G S₀ ρ σ S H _ I ?_;unfold ak at p
 cases e:me ρ with
 |exc c fs=>rw[e]at p;exact p
 |bad=>rw[e]at p;exact p
 | ok r=>
   rw[e]at p;intro v S1 H1 w1 r1;simp only[OE.dk]at p
   cases es:fq r with
   |none=>rw[es]at p;exact p.elim
   | some x=>
     rw[es]at p;obtain⟨S2,w2,s2,rx⟩:=r1.share w1 es
     refine ht.goA (I.grow w2) (p.back w2) fun xs vs S3 H3 I3 w3 r3 p3=>?_
     exact p3 (v ::vs) S3 H3 (aL.refl I3.sh) (.cons (Rep.mono w3.s rx) r3)
theorem uM:lim=sizeLine:=by decide
theorem bN{ma:ag->OA}(h:JA K cls W t ma):JE K cls W (Bn t) (cF ma):=by
 intro Av G S₀ ρ σ S H Q I p
 refine h.go I p fun xs vs S1 H1 I1 w1 r1 p1=>?_
 split at p1
 . rename_i hl
   refine⟨by rw[r1.length];exact hl,fun q hq=>p1 (.ref q) S1 _ (aL.heap I1.sh hq) ⟨q,vs,rfl,hq,I1.sh.free hq,aY,r1⟩⟩
 . exact p1.elim
theorem cH{ma:ag->OA}(h:JA K cls W t ma):JE K cls W (Di t) (dG ma):=by
 intro Av G S₀ ρ σ S H Q I p
 refine h.go I p fun xs vs S1 H1 I1 w1 r1 p1=>?_
 split at p1
 . rename_i hl
   refine⟨by rw[r1.length];exact hl,fun q hq=>p1 (.ref q) _ _ (aL.both I1.sh hq) ?_⟩
   show Rep K _ _ _;unfold Rep
   exact⟨q,vs,rfl,SqT.new aY,r1.mono (aL.both (o:=.tup vs) I1.sh hq).s⟩
 . exact p1.elim
noncomputable def FZ(K:PySem.W.Frag)(cls:String->Option Addr)(S H:Hp)(Q:VK)(E:XK):OE->Prop
 |.ok r=>∀ v S' H',aL S H S' H'->jn K H S' H' r v->Q v H'
 |.exc c fs=>∀ a C S' H',aL S H S' H'->kh K cls S' H' c fs a C->E (.ref C) (some a) H'
 |.bad=>False
noncomputable def spP(K:PySem.W.Frag)(cls:String->Option Addr)(f:List PV->OE):Sp:=fun vs H Q E=>∃ S xs,ay S H /\ bq K S xs vs /\ FZ K cls S H Q E (f xs)
theorem aO{ma:ag->OA}{f:List PV->OE}(h:JA K cls W t ma):JE K cls W (pZ (spP K cls f) [] W t) (bK f ma):=by
 intro Av G S₀ ρ σ S H Q I p
 refine h.go I p fun xs vs S1 H1 I1 w1 r1 p1=>?_
 show spP K cls f (vs++[]) H1 Q _;rw[List.append_nil]
 refine⟨S1,xs,I1.sh,r1,?_⟩
 cases e:f xs with
 |ok r=>rw[e]at p1;exact p1
 |exc c fs=>rw[e]at p1;exact p1
 |bad=>rw[e]at p1;exact p1
noncomputable def JU(K:PySem.W.Frag)(r:List V->Hp->VK->Prop)(g:PV->Option RV):Prop:=∀ S H x v rr Q,ay S H->RdV K S H x v->g x=some rr ->
 (∀ z S' H',aL S H S' H'->jn K H S' H' rr z->Q z H')->r [v] H Q
theorem fE{r:List V->Hp->VK->Prop}{g:PV->Option RV}{ma:ag->OE}(hr:JU K r g)(ha:JE K cls W ta ma):JE K cls W (tCB r (fJ ta j1)) (mUn g ma):=by
 intro Av G S₀ ρ σ S H Q I p
 refine ha.go I p fun a v S1 H1 I1 w1 r1 p1=>?_
 show r [v] H1 Q
 cases e:g a.pv with
 |none=>rw[e]at p1;exact p1.elim
 |some rr=>rw[e]at p1;exact hr S1 H1 a.pv v rr Q I1.sh (r1.rd I1.sh) e p1
theorem kd{r:V->Hp->VK->Prop}{g:PV->Option RV}{ma:ag->OE}(hr:JU K (fun vs H Q=>∃ v,vs=[v] /\ r v H Q) g)(ha:JE K cls W ta ma):JE K cls W (tUn r ta) (mUn g ma):=by
 intro Av G S₀ ρ σ S H Q I p
 refine ha.go I p fun a v S1 H1 I1 w1 r1 p1=>?_
 cases e:g a.pv with
 |none=>rw[e]at p1;exact p1.elim
 | some rr=>
   rw[e]at p1;obtain⟨u,e1,h⟩:=hr S1 H1 a.pv v rr Q I1.sh (r1.rd I1.sh) e p1;cases e1;exact h
theorem g9:JU K (fun vs H Q=>∃ v,vs=[v] /\ rU (fun i=>.int (-i)) v H Q) fi:=by
 intro S H x v rr Q I hx e k
 cases x with
 |int i=>cases e;exact⟨v,rfl,i,cn hx,k _ S H (aL.refl I) (by show Rep K S _ _;unfold Rep;rfl)⟩
 |_=>cases e
theorem vc:JU K (fun xs H Q=>∃ p ys,xs=[.ref p] /\ (SqL K H p ys \/ SqT K H p ys) /\ Q (.int ys.length) H) xt:=by
 intro S H x v rr Q I hx e k
 cases x with
 | lst xs=>
   cases e;obtain⟨p,vs,rfl,hq,r⟩:=eU hx
   exact⟨p,vs,rfl,.inl hq,k _ S H (aL.refl I) (by show Rep K S _ _;unfold Rep;rw[r.length])⟩
 | tup xs=>
   cases e;obtain⟨p,vs,rfl,hq,r⟩:=jz hx
   exact⟨p,vs,rfl,.inr (ay.tup I hq),k _ S H (aL.refl I) (by show Rep K S _ _;unfold Rep;rw[r.length])⟩
 |_=>cases e
theorem vN:JU K (fun xs H Q=>(∃ i,xs=[.int i] /\ Q (.int i) H) \/ ∃ k,xs=[.bl k] /\ Q (.int (if k then 1 else 0)) H) sX:=by
 intro S H x v rr Q I hx e k
 cases x with
 |int i=>cases e;exact .inl ⟨i,by rw[cn hx],k _ S H (aL.refl I) (by show Rep K S _ _;unfold Rep;rfl)⟩
 |bl b=>cases e;exact .inr ⟨b,by rw[kl hx],k _ S H (aL.refl I) (by show Rep K S _ _;unfold Rep;rfl)⟩
 |_=>cases e
theorem vF:JU K (fun xs H Q=>∃ p ys,xs=[.ref p] /\ (SqL K H p ys \/ SqT K H p ys) /\ ∀ l,H l=none->Q (.ref l) (upd H l (.lst ys))) mL:=by
 intro S H x v rr Q I hx e k
 cases x with
 | lst xs=>
   cases e;obtain⟨p,vs,rfl,hq,r⟩:=eU hx
   exact⟨p,vs,rfl,.inl hq,fun l hl=>k _ S _ (aL.heap I hl) ⟨l,vs,rfl,hl,I.free hl,aY,r⟩⟩
 | tup xs=>
   cases e;obtain⟨p,vs,rfl,hq,r⟩:=jz hx
   exact⟨p,vs,rfl,.inr (ay.tup I hq),fun l hl=>k _ S _ (aL.heap I hl) ⟨l,vs,rfl,hl,I.free hl,aY,r⟩⟩
 |_=>cases e
theorem Dr{α:Type}(xs:List α)(i:Int):atP xs i=L2.atI xs i:=rfl
theorem bq.atI(h:bq K S xs vs)(e:atP xs i=some x):∃ v,L2.atI vs i=some v /\ Rep K S x v:=by
 rw[Dr]at e
 unfold L2.atI at e ⊢
 rw[h.length]
 cases q:ixN xs.length i with
 |none=>rw[q]at e;cases e
 |some j=>rw[q]at e;exact h.get e
theorem jT:JR K (Bt K) i7:=by
 intro S H x y v u rr Q I hx hy e k;unfold i7 at e;split at e
 . rename_i xs i;obtain⟨z,e1,e2⟩:=Option.map_eq_some_iff.mp e;obtain⟨p,vs,rfl,hq,r⟩:=eU hx;obtain⟨w,e3,rw'⟩:=r.atI e1;subst e2
   exact⟨p,vs,i,w,rfl,cn hy,hq,e3,k _ S H (aL.refl I) rw'⟩
 . cases e
theorem eC:JR K (FI K) dQ:=by
 intro S H x y v u rr Q I hx hy e k;unfold dQ at e;split at e
 . rename_i xs i;obtain⟨z,e1,e2⟩:=Option.map_eq_some_iff.mp e;obtain⟨p,vs,rfl,hq,r⟩:=jz hx;obtain⟨w,e3,rw'⟩:=r.atI e1;subst e2
   exact⟨p,vs,i,w,rfl,cn hy,ay.tup I hq,e3,k _ S H (aL.refl I) rw'⟩
 . cases e
end
section
variable{K:PySem.W.Frag}{cls:String->Option Addr}{W:XW}{Av G S₀ S S' H H' B B':Hp}{ρ:ag}{σ:St}{Q:VK}
theorem iW:JR K (CI K) lr:=by
 intro S H x y v u rr Q I hx hy e k;unfold lr at e;split at e
 . rename_i xs ys;split at e
   . rename_i hl;cases e;obtain⟨p,vs,rfl,hq,r⟩:=eU hx;obtain⟨p2,vs2,rfl,hq2,r2⟩:=eU hy
     exact⟨p,p2,vs,vs2,rfl,rfl,hq,hq2,by rw[r.length,r2.length];exact hl,fun l hn=>k _ S _ (aL.heap I hn) ⟨l,_,rfl,hn,I.free hn,aY,r.append r2⟩⟩
   . cases e
 . cases e
theorem qR{xs:List PV}{ns:List Int}(h:nL xs=some ns):xs=ns.map .int:=by
 induction xs generalizing ns with
 |nil=>cases h;rfl
 | cons x xs ih=>
   cases x with
   | int i=>
     obtain⟨ms,e1,e2⟩:=Option.map_eq_some_iff.mp h;subst e2;rw[ih e1];rfl
   |_=>cases h
theorem BS{x y:PV}{v u:V}{b:Bool}(hx:RdV K S H x v)(hy:RdV K S H y u)(e:BM x y=some b):
  ∃(p q:Addr) (ns ms:List Int),v=.ref p /\ u=.ref q /\ SqL K H p (ns.map V.int) /\ SqL K H q (ms.map V.int) /\ b=decide (ns=ms):=by
 unfold BM at e;split at e
 . rename_i xs ys;split at e
   . rename_i a b' e1 e2;cases e;obtain⟨p,vs,rfl,hq,r⟩:=eU hx;obtain⟨p2,vs2,rfl,hq2,r2⟩:=eU hy;rw[qR e1]at r;rw[qR e2]at r2;rw[r.uj]at hq;rw[r2.uj]at hq2
     exact⟨p,p2,a,b',rfl,rfl,hq,hq2,rfl⟩
   . cases e
 . cases e
theorem uH{A:Around}(hu:A.units+64<cLine):JR K (FK K A false) uL:=by
 intro S H x y v u rr Q I hx hy e k;obtain⟨b,e1,e2⟩:=Option.map_eq_some_iff.mp e;obtain⟨p,q,ns,ms,rfl,rfl,h1,h2,rfl⟩:=BS hx hy e1;subst e2
 exact⟨p,q,ns,ms,rfl,rfl,h1,h2,hu,k _ S H (aL.refl I) (by show Rep K S _ _;unfold Rep;simp)⟩
theorem uS{xs:List PV}{vs:List V}{bs:List Bool}(h:kW xs=some bs)(r:bq K S xs vs):vs=bs.map V.bl:=by
 induction xs generalizing bs vs with
 |nil=>cases h;exact r.nil_inv
 | cons x xs ih=>
   cases x with
   | bl i=>
     obtain⟨ms,e1,e2⟩:=Option.map_eq_some_iff.mp h;subst e2;obtain⟨v,t,rfl,h1,h2⟩:=r.cons_inv;unfold Rep at h1;rw[ih e1 h2,h1];rfl
   |_=>cases h
theorem DZ{A:Around}(hh:A.handled=none):JU K (fun xs H Q=>∃(p:Addr) (bs:List Bool),xs=[.ref p] /\ SqL K H p (bs.map V.bl) /\ A.handled=none /\ Q (.bl (bs.all id)) H) Dh:=by
 intro S H x v rr Q I hx e k
 cases x with
 | lst xs=>
   obtain⟨bs,e1,e2⟩:=Option.map_eq_some_iff.mp e;obtain⟨p,vs,rfl,hq,r⟩:=eU hx;rw[uS e1 r]at hq;subst e2
   exact⟨p,bs,rfl,hq,hh,k _ S H (aL.refl I) (by show Rep K S _ _;unfold Rep;rfl)⟩
 |_=>cases e
theorem Eh{T:String}{x:PV}{v:V}{b:Bool}(s:ay S H)(hx:RdV K S H x v)(e:isP T x=some b):IsV K T v H b:=by
 cases x with
 | int i=>
   have:=cn hx;subst this;simp only[isP]at e;split at e
   . cases e;exact .inl ⟨by assumption,rfl⟩
   . split at e
     . rename_i h;cases e;rcases h with h|h|h|h
       . exact .inr (.inl ⟨h,rfl⟩)
       . exact .inr (.inr (.inl ⟨h,rfl⟩))
       . exact .inr (.inr (.inr (.inl ⟨h,rfl⟩)))
       . exact .inr (.inr (.inr (.inr ⟨h,rfl⟩)))
     . cases e
 | bl i=>
   have:=kl hx;subst this;simp only[isP]at e;split at e
   . rename_i h;cases e;rcases h with h|h
     . exact .inl ⟨h,rfl⟩
     . exact .inr (.inl ⟨h,rfl⟩)
   . split at e
     . rename_i h;cases e;rcases h with h|h|h
       . exact .inr (.inr (.inl ⟨h,rfl⟩))
       . exact .inr (.inr (.inr (.inl ⟨h,rfl⟩)))
       . exact .inr (.inr (.inr (.inr ⟨h,rfl⟩)))
     . cases e
 | non=>
   have:=iu hx;subst this;simp only[isP]at e;split at e
   . rename_i h;cases e;rcases h with h|h|h|h|h
     . exact .inl ⟨h,rfl⟩
     . exact .inr (.inl ⟨h,rfl⟩)
     . exact .inr (.inr (.inl ⟨h,rfl⟩))
     . exact .inr (.inr (.inr (.inl ⟨h,rfl⟩)))
     . exact .inr (.inr (.inr (.inr ⟨h,rfl⟩)))
   . cases e
 | str i=>
   have:=gK hx;subst this;simp only[isP]at e;split at e
   . cases e;exact .inr (.inr (.inr (.inr ⟨by assumption,rfl⟩)))
   . split at e
     . rename_i h;cases e;rcases h with h|h|h|h
       . exact .inl ⟨h,rfl⟩
       . exact .inr (.inl ⟨h,rfl⟩)
       . exact .inr (.inr (.inl ⟨h,rfl⟩))
       . exact .inr (.inr (.inr (.inl ⟨h,rfl⟩)))
     . cases e
 | lst xs=>
   obtain⟨p,vs,rfl,hq,r⟩:=eU hx;refine .inl ⟨⟨vs,hq⟩,?_⟩;simp only[isP]at e;split at e
   . cases e;exact .inr (.inr (.inl ⟨by assumption,rfl⟩))
   . split at e
     . rename_i h;cases e;rcases h with h|h|h|h
       . exact .inl ⟨h,rfl⟩
       . exact .inr (.inl ⟨h,rfl⟩)
       . exact .inr (.inr (.inr (.inl ⟨h,rfl⟩)))
       . exact .inr (.inr (.inr (.inr ⟨h,rfl⟩)))
     . cases e
 | tup xs=>
   obtain⟨p,vs,rfl,hq,r⟩:=jz hx;refine .inr ⟨⟨vs,ay.tup s hq⟩,?_⟩;simp only[isP]at e;split at e
   . cases e;exact .inr (.inr (.inr (.inl ⟨by assumption,rfl⟩)))
   . split at e
     . rename_i h;cases e;rcases h with h|h|h|h
       . exact .inl ⟨h,rfl⟩
       . exact .inr (.inl ⟨h,rfl⟩)
       . exact .inr (.inr (.inl ⟨h,rfl⟩))
       . exact .inr (.inr (.inr (.inr ⟨h,rfl⟩)))
     . cases e
theorem u4{T:String}{ta:TE}{ma:ag->OE}(ha:JE K cls W ta ma):
  JE K cls W (tCB (fun xs H Q=>∃ x T b,xs=[x,.ty T] /\ IsV K T x H b /\ Q (.bl b) H) (fJ ta (fJ (tC (.ty T)) j1))) (mIs T ma):=by
 intro Av G S₀ ρ σ S H Q I p
 refine ha.go I p fun a v S1 H1 I1 w1 r1 p1=>?_
 show ∃ x T' b,[v,V.ty T]=[x,V.ty T'] /\ _
 dsimp only at p1
 cases e:isP T a.pv with
 |none=>rw[e]at p1;exact p1.elim
 | some b=>
   rw[e]at p1
   exact⟨v,T,b,rfl,Eh I1.sh (r1.rd I1.sh) e,p1 _ S1 H1 (aL.refl I1.sh) (by show Rep K S1 _ _;unfold Rep;rfl)⟩
end
section
variable{K:PySem.W.Frag}{cls:String->Option Addr}{W:XW}{Av G S₀ S S' H H' B B':Hp}{ρ:ag}{σ:St}{Q:VK}
theorem nB{xs:List PV}{vs:List V}(h:bq K S xs vs):vs.isEmpty=xs.isEmpty:=by
 cases xs with
 |nil=>rw[h.nil_inv];rfl
 |cons x xs=>obtain⟨v,r,rfl,_⟩:=h.cons_inv;rfl
theorem Ba(s:ay S H)(hx:RdV K S H x v)(e:fN x=some b):xN K v H b:=by
 cases x with
 |non=>have:=iu hx;subst this;cases e;rfl
 |bl c=>have:=kl hx;subst this;cases e;rfl
 |int i=>have:=cn hx;subst this;cases e;rfl
 |str z=>cases e
 | lst xs=>
   obtain⟨p,vs,rfl,hq,r⟩:=eU hx;cases e;exact .inl ⟨vs,hq,by rw[nB r]⟩
 | tup xs=>
   obtain⟨p,vs,rfl,hq,r⟩:=jz hx;cases e;exact .inr (.inl ⟨vs,ay.tup s hq,by rw[nB r]⟩)
theorem dg{ma:ag->OE}(ha:JE K cls W ta ma):JT K cls W (fun σ H Q=>ta σ H fun x H'=>∃ k,xN K x H' k /\ Q k H') (bw ma):=by
 intro Av G S₀ ρ σ S H Q I p
 refine ha.goT I p fun r v S1 H1 I1 w1 r1 p1=>?_
 cases e:fN r.pv with
 |none=>rw[e]at p1;exact p1.elim
 |some b=>rw[e]at p1;exact⟨b,Ba I1.sh (r1.rd I1.sh) e,p1 S1 H1 (aL.refl I1.sh)⟩
theorem qo{r:RV}(h:r.pv=.bl b)(r1:jn K H S1 H1 r v)(s:ay S1 H1):v=.bl b:=by
 have:=r1.rd s;rw[h]at this;exact kl this
theorem aI{ma:ag->OE}(ha:JE K cls W ta ma):JT K cls W (qS ta) (aA ma):=by
 intro Av G S₀ ρ σ S H Q I p
 refine ha.goT I p fun r v S1 H1 I1 w1 r1 p1=>?_
 cases e:r.pv with
 |bl b=>rw[e]at p1;exact⟨b,qo e r1 I1.sh,p1 S1 H1 (aL.refl I1.sh)⟩
 |_=>rw[e]at p1;exact p1.elim
theorem vj{ma:ag->OT}(ha:JT K cls W ta ma):JT K cls W (EX ta) (oz ma):=by
 intro Av G S₀ ρ σ S H Q I p
 exact ha.goT I p fun b S1 H1 I1 w1 p1=>p1 S1 H1 (aL.refl I1.sh)
theorem ik{ma mb:ag->OT}(ha:JT K cls W ta ma)(hb:JT K cls W tb mb):JT K cls W (D8 ta tb) (cC ma mb):=by
 intro Av G S₀ ρ σ S H Q I p
 refine ha.goT I p fun b S1 H1 I1 w1 p1=>?_
 cases b with
 |true=>exact sZ (hb Av G S₀ ρ σ S1 H1 Q I1 p1)
 |false=>exact tU (p1 S1 H1 (aL.refl I1.sh))
theorem Af{ma mb:ag->OT}(ha:JT K cls W ta ma)(hb:JT K cls W tb mb):JT K cls W (tOr ta tb) (nO ma mb):=by
 intro Av G S₀ ρ σ S H Q I p
 refine ha.goT I p fun b S1 H1 I1 w1 p1=>?_
 cases b with
 |false=>exact tU (hb Av G S₀ ρ σ S1 H1 Q I1 p1)
 |true=>exact sZ (p1 S1 H1 (aL.refl I1.sh))
theorem lY:jn K B S H (.sh (.bl b)) (.bl b):=by show Rep K S _ _;unfold Rep;rfl
theorem n6{ma mb:ag->OE}(ha:JE K cls W ta ma)(hb:JE K cls W tb mb):JE K cls W (zi ta tb) (hU ma mb):=by
 intro Av G S₀ ρ σ S H Q I p
 refine ha.go I p fun r v S1 H1 I1 w1 r1 p1=>?_
 cases e:r.pv with
 | bl b=>
   rw[e]at p1
   refine⟨b,qo e r1 I1.sh,?_⟩
   cases b with
   |true=>exact sZ (hb Av G S₀ ρ σ S1 H1 Q I1 p1)
   |false=>exact tU (p1 _ S1 H1 (aL.refl I1.sh) lY)
 |_=>rw[e]at p1;exact p1.elim
theorem Fy{ma mb:ag->OE}(ha:JE K cls W ta ma)(hb:JE K cls W tb mb):JE K cls W (Dg ta tb) (tD ma mb):=by
 intro Av G S₀ ρ σ S H Q I p
 refine ha.go I p fun r v S1 H1 I1 w1 r1 p1=>?_
 cases e:r.pv with
 | bl b=>
   rw[e]at p1
   refine⟨b,qo e r1 I1.sh,?_⟩
   cases b with
   |false=>exact tU (hb Av G S₀ ρ σ S1 H1 Q I1 p1)
   |true=>exact sZ (p1 _ S1 H1 (aL.refl I1.sh) lY)
 |_=>rw[e]at p1;exact p1.elim
theorem Ag{ma:ag->OE}(ha:JE K cls W ta ma):JE K cls W (zS ta) (m8 ma):=by
 intro Av G S₀ ρ σ S H Q I p
 refine ha.go I p fun r v S1 H1 I1 w1 r1 p1=>?_
 cases e:r.pv with
 |bl b=>rw[e]at p1;exact⟨b,qo e r1 I1.sh,p1 _ S1 H1 (aL.refl I1.sh) lY⟩
 |_=>rw[e]at p1;exact p1.elim
theorem qE{mc:ag->OT}{ma mb:ag->OE}(hc:JT K cls W tc mc)(ha:JE K cls W ta ma)(hb:JE K cls W tb mb):JE K cls W (tIf tc ta tb) (jR mc ma mb):=by
 intro Av G S₀ ρ σ S H Q I p
 refine hc.go I p fun b S1 H1 I1 w1 p1=>?_
 cases b with
 |true=>exact sZ (ha Av G S₀ ρ σ S1 H1 Q I1 p1)
 |false=>exact tU (hb Av G S₀ ρ σ S1 H1 Q I1 p1)
theorem yU{g g':PV->PV->Option RV}{ma mb mc:ag->OE}(hr:JR K r g)(hr':JR K r' g')(ha:JE K cls W ta ma)(hb:JE K cls W tb mb)(hc:JE K cls W tc mc):
  JE K cls W (vn r r' ta tb tc) (nY g g' ma mb mc):=by
 intro Av G S₀ ρ σ S H Q I p
 refine ha.go I p fun a v S1 H1 I1 w1 r1 p1=>hb.go I1 p1 fun b u S2 H2 I2 w2 r2 p2=>?_
 cases e:g a.pv b.pv with
 |none=>rw[e]at p2;exact p2.elim
 | some rr=>
   rw[e]at p2
   refine hr S2 H2 a.pv b.pv v u rr _ I2.sh ((r1.rd I1.sh).mono w2.s w2.g) (r2.rd I2.sh) e fun z S3 H3 w3 r3=>?_
   have I3:=I2.grow w3;simp only[oE,OE.bind]at p2
   cases e3:rr.pv with
   | bl k=>
     rw[e3]at p2;have hz:=qo e3 r3 I3.sh
     refine⟨k,hz,?_⟩
     cases k with
     |false=>exact tU (p2 _ S3 H3 w3 lY)
     | true=>
       refine sZ (hc.go I3 (p2.back w3) fun c y S4 H4 I4 w4 r4 p4=>?_)
       cases e4:g' b.pv c.pv with
       |none=>rw[e4]at p4;exact p4.elim
       |some r'=>rw[e4]at p4;exact hr' S4 H4 b.pv c.pv u y r' Q I4.sh (((r2.rd I2.sh).mono w3.s w3.g).mono w4.s w4.g) (r4.rd I4.sh) e4 p4
   |_=>rw[e3]at p2;exact p2.elim
theorem au{ma mb:ag->OS}(ha:JS K cls W ta ma)(hb:JS K cls W tb mb):JS K cls W (Dx ta tb) (aD ma mb):=by
 intro Av G S₀ ρ σ S H D I p;refine ha Av G S₀ ρ σ S H _ I ?_;unfold aD at p
 cases e:ma ρ with
 |nx ρ'=>rw[e]at p;exact fun σ' S' H' I' s'=>hb Av G S₀ ρ' σ' S' H' D I' (p.back s')
 |bk ρ'=>rw[e]at p;exact p
 |ct ρ'=>rw[e]at p;exact p
 |rt ρ' r=>rw[e]at p;exact p
 |exc ρ' c fs=>rw[e]at p;exact p
 |bad=>rw[e]at p;exact p
theorem aV:JS K cls W yz bA:=fun Av G S₀ ρ σ S H D I p=>p σ S H I (ay.refl _)
theorem aC{me:ag->OE}(he:JE K cls W te me):JS K cls W (nT te (gH i)) (aF i me):=by
 intro Av G S₀ ρ σ S H D I p
 refine he.goS I p fun r v S1 H1 I1 w1 r1 p1=>?_
 show D.nx (σ.set i (some v)) H1
 cases r with
 |sh x=>exact p1 _ S1 H1 (I1.wj r1) (ay.refl _)
 |fr xs=>exact p1 _ S1 H1 (I.FQ w1 r1) (ay.refl _)
 |al xs=>exact p1.elim
theorem bB{mc:ag->OT}{ma mb:ag->OS}(hc:JT K cls W tc mc)(ha:JS K cls W ta ma)(hb:JS K cls W tb mb):JS K cls W (En tc ta tb) (bz mc ma mb):=by
 intro Av G S₀ ρ σ S H D I p
 refine hc.goS I p fun b S1 H1 I1 w1 p1=>?_
 cases b with
 |true=>exact sZ (ha Av G S₀ ρ σ S1 H1 D I1 p1)
 |false=>exact tU (hb Av G S₀ ρ σ S1 H1 D I1 p1)
theorem bu{me:ag->OE}(he:JE K cls W te me):JS K cls W (Bi te) (cS me):=by
 intro Av G S₀ ρ σ S H D I p
 refine he.goS I p fun r v S1 H1 I1 w1 r1 p1=>?_
 cases r with
 |sh x=>exact p1 v σ S1 H1 I1 (ay.refl _) r1
 |fr xs=>exact p1 v σ S1 H1 I1 (ay.refl _) (r1.back I.gh)
 |al xs=>exact p1.elim
theorem jh:JS K cls W (Bi (uR i)) (cY i):=by
 intro Av G S₀ ρ σ S H D I p;unfold cY at p;split at p
 . rename_i x e;obtain⟨v,e1,r⟩:=I.good i _ e
   exact⟨v,e1,p v σ S H I (ay.refl _) r⟩
 . rename_i xs e;obtain⟨v,e1,a,vs,e2,h1,h2,h3,h4⟩:=I.good i _ e
   exact⟨v,e1,p v σ S H I.drop (ay.refl _) ⟨a,vs,e2,h1,h2,h3,h4⟩⟩
 . exact p.elim
theorem eK{m:ag->OS}(h:JS K cls W ts m):JS K cls W ts (cw i m):=by
 intro Av G S₀ ρ σ S H D I p;unfold cw fT at p;split at p
 . rename_i xs e;obtain⟨S',s,J⟩:=I.FP e;exact h Av G S₀ _ σ S' H D J (p.back s)
 . exact h Av G S₀ ρ σ S H D I p
theorem de{me:ag->OE}(he:JE K cls W te me):JS K cls W (pG (tBM K "list" rA (uR i) (fJ te j1))) (bg i me):=by
 intro Av G S₀ ρ σ S H D I p;unfold bg at p;split at p
 . rename_i xs e;obtain⟨v,e1,a,vs,rfl,h1,h2,h3,h4⟩:=I.good i _ e
   refine⟨_,e1,.inl ⟨rfl,_,SqL.new h3⟩,?_⟩
   refine he Av G S₀ ρ σ S H _ I ?_
   cases em:me ρ with
   |exc c fs=>rw[em]at p;exact fun a C S' H' w x=>p a C σ S' H' (I.grow w) w.s x
   |bad=>rw[em]at p;exact p
   | ok r=>
     rw[em]at p;intro u S1 H1 w1 r1;simp only[OE.bU]at p
     cases es:fq r with
     |none=>rw[es]at p;exact p.elim
     | some y=>
       rw[es]at p
       dsimp only at p
       split at p
       . rename_i hl;obtain⟨S2,w2,s2,rx⟩:=r1.share w1 es;have I2:=I.grow w2
         refine⟨a,vs,u,rfl,rfl,w2.g _ _ h3,by rw[h4.length];exact hl,?_⟩
         exact p σ S2 _ (I2.mut e e1 ((h4.mono w2.s).append (.cons rx .nil))) w2.s
       . exact p.elim
 . exact p.elim
theorem qF{mb:ag->OS}{D:Ends}{N:St->Hp->Prop}(hb:JS K cls W tb mb)(I:SR K cls Av G S₀ ρ σ S H)(hx:Rep K S x v)
  (p:fM K cls W Av G S₀ S D (dM i mb (x ::xs) ρ)) (hN:∀ ρ' σ' S' H',SR K cls Av G S₀ ρ' σ' S' H'->ay S S'->fM K cls W Av G S₀ S' D (dM i mb xs ρ')->N σ' H'):
  gH i v σ H fun σ2 H2=>tb { D with nx:=N,ct:=N,bk:=D.nx } σ2 H2:=by
 refine hb Av G S₀ _ _ S H _ (I.wj hx) ?_;rw[gf]at p
 cases e:mb (ρ.set i (some (.sh x)))with
 |nx ρ'=>rw[e]at p;exact fun σ' S' H' I' s'=>hN ρ' σ' S' H' I' s' (p.back s')
 |ct ρ'=>rw[e]at p;exact fun σ' S' H' I' s'=>hN ρ' σ' S' H' I' s' (p.back s')
 |bk ρ'=>rw[e]at p;exact p
 |rt ρ' r=>rw[e]at p;exact p
 |exc ρ' c fs=>rw[e]at p;exact p
 |bad=>rw[e]at p;exact p
theorem m6{ml:ag->OE}{mb:ag->OS}(hl:JE K cls W tl ml)(hb:JS K cls W tb mb):JS K cls W (yq (tG K tl) (gH i) tb) (jY i ml mb):=by
 intro Av G S₀ ρ σ S H D I p;refine hl Av G S₀ ρ σ S H _ I ?_;unfold jY at p
 cases em:ml ρ with
 |exc c fs=>rw[em]at p;exact fun a C S' H' w x=>p a C σ S' H' (I.grow w) w.s x
 |bad=>rw[em]at p;exact p
 | ok r=>
   rw[em]at p;intro v S1 H1 w1 r1;simp only[OE.bU]at p
   cases ei:ux r with
   |none=>rw[ei]at p;exact p.elim
   | some xs=>
     rw[ei]at p
     have es:fq r=some (.lst xs):=by
      cases r with
      |sh y=>cases y<;>cases ei<;>rfl
      |fr ys=>cases ei;rfl
      |al ys=>cases ei
     obtain⟨S2,w2,s2,rx⟩:=r1.share w1 es;have I2:=I.grow w2;unfold Rep at rx;obtain⟨a,vs,rfl,hq,hr⟩:=rx
     refine⟨a,rfl,⟨vs,ay.seq I2.sh hq⟩,?_⟩
     refine zR (xs:=vs) (fun k σ' H'=>∃ ρ' S',SR K cls Av G S₀ ρ' σ' S' H' /\ ay S2 S' /\ fM K cls W Av G S₀ S' D (dM i mb (xs.drop k) ρ'))
      ⟨ρ,S2,I2,ay.refl _,p.back w2.s⟩ ?_ ?_ ?_
     . rintro k σ' H' _ ⟨ρ',S',I',s',_⟩
       exact ay.seq (s'.trans I'.sh) hq
     . rintro k x σ' H' hx ⟨ρ',S',I',s',p'⟩
       obtain⟨y,hy,ry⟩:=hr.FX hx
       have hd:xs.drop k=y ::xs.drop (k+1):=by
        have hk:k<xs.length:=(List.getElem?_eq_some_iff.mp hy).1
        rw[List.drop_eq_getElem_cons hk]
        congr 1
        have:=List.getElem?_eq_getElem hk;rw[hy]at this
        exact(Option.some.inj this).symm
       rw[hd]at p'
       exact qF hb I' (Rep.mono s' ry) p' fun ρ2 σ2 S3 H3 I3 s3 p3=>⟨ρ2,S3,I3,s'.trans s3,p3⟩
     . rintro σ' H' ⟨ρ',S',I',s',p'⟩
       rw[List.drop_of_length_le (by rw[hr.length];exact Nat.le_refl _)]at p';exact p' σ' S' H' I' (ay.refl _)
theorem uB(h:k<n):(bX n).drop k=.int (k:Int) ::(bX n).drop (k+1):=by
 have hk:k<(bX n).length:=by unfold bX;simpa using h
 rw[List.drop_eq_getElem_cons hk]
 congr 1
 simp[bX]
theorem nv{me:ag->OE}{mb:ag->OS}(he:JE K cls W te me)(hb:JS K cls W tb mb):JS K cls W (yq (vS (fJ te j1)) (gH i) tb) (jX i me mb):=by
 intro Av G S₀ ρ σ S H D I p
 refine he.goS I p fun r v S1 H1 I1 w1 r1 p1=>?_
 cases e:r.pv with
 | int j=>
   rw[e]at p1
   have hv:v=.int j:=by have:=r1.rd I1.sh;rw[e]at this;exact cn this
   subst hv
   dsimp only at p1
   split at p1
   . rename_i hj
     refine⟨j,rfl,hj.1,hj.2,?_⟩
     refine xo (n:=j.toNat) (fun k σ' H'=>∃ ρ' S',SR K cls Av G S₀ ρ' σ' S' H' /\ ay S1 S' /\ fM K cls W Av G S₀ S' D (dM i mb ((bX j.toNat).drop k) ρ'))
      ⟨ρ,S1,I1,ay.refl _,p1⟩ ?_ ?_
     . rintro k σ' H' hk ⟨ρ',S',I',s',p'⟩
       rw[uB hk]at p'
       refine qF hb I' ?_ p' fun ρ2 σ2 S3 H3 I3 s3 p3=>⟨ρ2,S3,I3,s'.trans s3,p3⟩
       unfold Rep;rw[Int.zero_add]
     . rintro σ' H' ⟨ρ',S',I',s',p'⟩
       rw[List.drop_of_length_le (by unfold bX;simp)]at p';exact p' σ' S' H' I' (ay.refl _)
   . exact p1.elim
 |_=>rw[e]at p1;exact p1.elim
theorem tm{mc:ag->OT}{mb:ag->OS}(hc:JT K cls W tc mc)(hb:JS K cls W tb mb):JS K cls W (uI tc tb) (gg mc mb n):=by
 intro Av G S₀ ρ σ S H D I p
 refine⟨fun m σ' H'=>∃ ρ' S',SR K cls Av G S₀ ρ' σ' S' H' /\ ay S S' /\ fM K cls W Av G S₀ S' D (gg mc mb m ρ'),⟨n,ρ,S,I,ay.refl _,p⟩,?_⟩
 rintro m σ1 H1 ⟨ρ1,S1,I1,s1,p1⟩
 cases m with
 |zero=>exact p1.elim
 | succ m=>
   unfold gg at p1
   refine hc.goS I1 p1 fun b S2 H2 I2 w2 p2=>?_
   cases b with
   |false=>exact tU (p2 σ1 S2 H2 I2 (ay.refl _))
   | true=>
     refine sZ ⟨fun σ' H'=>∃ ρ' S',SR K cls Av G S₀ ρ' σ' S' H' /\ ay S S' /\ fM K cls W Av G S₀ S' D (gg mc mb m ρ'),fun σ' H' h=>⟨m,Nat.lt_succ_self m,h⟩,?_⟩;refine hb Av G S₀ ρ1 σ1 S2 H2 _ I2 ?_;simp only[if_true]at p2
     cases e:mb ρ1 with
     |nx ρ'=>rw[e]at p2;exact fun σ' S' H' I' s'=>⟨ρ',S',I',(s1.trans w2.s).trans s',p2.back s'⟩
     |ct ρ'=>rw[e]at p2;exact fun σ' S' H' I' s'=>⟨ρ',S',I',(s1.trans w2.s).trans s',p2.back s'⟩
     |bk ρ'=>rw[e]at p2;exact p2
     |rt r=>rw[e]at p2;exact p2
     |exc ρ' c fs=>rw[e]at p2;exact p2
     |bad=>rw[e]at p2;exact p2
end
section
variable{K:PySem.W.Frag}{cls:String->Option Addr}{W:XW}{Av G S₀ S S' H H' B B':Hp}{ρ:ag}{σ:St}{Q:VK}
noncomputable def zO:V->Option Int
 |.int i=>some i
 |_=>none
noncomputable def JO(K:PySem.W.Frag)(cls:String->Option Addr)(W:XW)(to:TO)(m:ag->OE):Prop:=∀ Av G S₀ ρ σ S H (Q:Option Int->Hp->Prop),SR K cls Av G S₀ ρ σ S H ->
 jo K cls W σ S H (fun v H'=>Q (zO v) H') (m ρ)->to σ H Q
theorem AD:JO K cls W rN (mC .non):=fun Av G S₀ ρ σ S H Q I p=>p .non S H (aL.refl I.sh) (by show Rep K S _ _;unfold Rep;rfl)
theorem Bz{m:ag->OE}(h:JE K cls W te m):JO K cls W (zY te) (wx m):=by
 intro Av G S₀ ρ σ S H Q I p
 refine h.go I p fun r v S1 H1 I1 w1 r1 p1=>?_
 cases e:r.pv with
 | int i=>
   rw[e]at p1
   have hv:v=.int i:=by have:=r1.rd I1.sh;rw[e]at this;exact cn this
   exact⟨i,hv,p1 (.int i) S1 H1 (aL.refl I1.sh) (by show Rep K S1 _ _;unfold Rep;rfl)⟩
 |_=>rw[e]at p1;exact p1.elim
theorem JO.go{m:ag->OE}{f:RV->OE}{Q':Option Int->Hp->Prop}(h:JO K cls W to m)(I:SR K cls Av G S₀ ρ σ S H)(p:jo K cls W σ S H Q ((m ρ).bind f))
  (k:∀ r v S1 H1,SR K cls Av G S₀ ρ σ S1 H1->aL S H S1 H1->jn K H S1 H1 r v->jo K cls W σ S1 H1 Q (f r)->Q' (zO v) H1):to σ H Q':=by
 refine h Av G S₀ ρ σ S H Q' I ?_
 cases e:m ρ with
 |ok r=>rw[e]at p;exact fun v S1 H1 w r1=>k r v S1 H1 (I.grow w) w r1 (p.back w)
 |exc c fs=>rw[e]at p;exact p
 |bad=>rw[e]at p;exact p
theorem part_of(h:RdV K S H x v):zO v=qg x:=by
 cases x with
 |int i=>rw[cn h];rfl
 |non=>rw[iu h];rfl
 |bl b=>rw[kl h];rfl
 |str b=>rw[gK h];rfl
 |lst xs=>obtain⟨p,vs,rfl,_⟩:=eU h;rfl
 |tup xs=>obtain⟨p,vs,rfl,_⟩:=jz h;rfl
theorem bq.cut(h:bq K S xs vs)(lo hi:Option Int):bq K S (zy xs lo hi) (xv vs lo hi):=by
 have es:∀ n d o,vm n d o=HT.sIx n d o:=fun n d o=>by cases o<;>rfl
 unfold zy xv;simp only[es];rw[h.length]
 exact(h.drop _).take _
theorem CV{ma ml mh:ag->OE}(ha:JE K cls W te ma)(hl:JO K cls W tl ml)(hh:JO K cls W th mh):JE K cls W (tSl (F5 K) te tl th) (BV ma ml mh):=by
 intro Av G S₀ ρ σ S H Q I p
 refine ha.go I p fun a v S1 H1 I1 w1 r1 p1=>hl.go I1 p1 fun l u S2 H2 I2 w2 r2 p2=>hh.go I2 p2 fun h z S3 H3 I3 w3 r3 p3=>?_
 rw[part_of (r2.rd I2.sh),part_of (r3.rd I3.sh)];have ra:=((r1.rd I1.sh).mono w2.s w2.g).mono w3.s w3.g
 cases e:a.pv with
 | lst xs=>
   rw[e]at p3 ra;obtain⟨q,vs,rfl,hq,hr⟩:=eU ra
   exact⟨q,vs,rfl,hq,fun b hb=>p3 _ S3 _ (aL.heap I3.sh hb) ⟨b,_,rfl,hb,I3.sh.free hb,aY,hr.cut _ _⟩⟩
 |_=>rw[e]at p3;exact p3.elim
theorem join_some{α:Type}{o:Option (Option α)}{s:α}(h:o.join=some s):o=some (some s):=by
 cases o with
 |none=>cases h
 | some x=>cases x with
   |none=>cases h
   |some y=>rw[show y=s from Option.some.inj h]
theorem BE{α:Type}{l:List (Option α)}{ι:List Nat}{j:Nat}{s:α}(h:(ι.map fun i=>(l[i]?).join)[j]?=some (some s)):∃ i,ι[j]?=some i /\ l[i]?=some (some s):=by
 rw[List.getElem?_map]at h
 cases e:ι[j]? with
 |none=>rw[e]at h;cases h
 |some i=>rw[e]at h;exact⟨i,rfl,join_some (Option.some.inj h)⟩
noncomputable def Cc(ι:List Nat)(Av:Hp):Hp:=fun j=>match ι[j]? with
 |some i=>Av i
 |none=>none
noncomputable def sV(ι:List Nat)(F:Nat->List Addr):Nat->List Addr:=fun j=>match ι[j]? with
 |some i=>F i
 |none=>[]
theorem oK.at(h:oK K cls Av G S H i s v fp)(e:Av' j=Av i):oK K cls Av' G S H j s v fp:=by
 cases s with
 |sh x=>exact h
 |ow xs=>exact h
 |ex c fs=>exact h
 |tr io t=>exact⟨h.1,h.2.1,h.2.2.1,fun z=>by rw[e];exact h.2.2.2 z⟩
 |bo t=>exact h
theorem SR.pick{ι:List Nat}{x:PV}{v:V}(I:SR K cls Av G S₀ ρ σ S H)(hι:ι.Nodup)(hx:Rep K S x v):SR K cls (Cc ι Av) G S₀ (b4 ι ρ++[some (.sh x)]) (L2.E.pick ι σ++[some v]) S H:=by
 obtain⟨F,J⟩:=I
 have hl:(b4 ι ρ).length=(L2.E.pick ι σ).length:=by unfold b4 L2.E.pick;simp
 have hp:(b4 ι ρ).length=ι.length:=by unfold b4;simp
 refine⟨sV ι F,J.gh,J.s0,J.sh,J.new,fun j s e=>?_,fun j k a h1 h2=>?_,fun j a h=>?_,by unfold b4 L2.E.pick;simp⟩
 . by_cases hj:j<(b4 ι ρ).length
   . rw[List.getElem?_append_left hj]at e;obtain⟨i,e1,e2⟩:=BE e;obtain⟨u,e3,r⟩:=J.own i s e2
     refine⟨u,?_,?_⟩
     . rw[List.getElem?_append_left (by rw[<- hl];exact hj)];unfold L2.E.pick;rw[List.getElem?_map,e1];show some (σ[i]?).join=_;rw[e3];rfl
     . unfold sV;rw[e1];exact r.at (by unfold Cc;rw[e1])
   . have hj':(b4 ι ρ).length<=j:=Nat.le_of_not_lt hj
     rw[List.getElem?_append_right hj']at e
     have h0:j - (b4 ι ρ).length=0:=by
      by_cases h:j - (b4 ι ρ).length=0
      . exact h
      . rw[List.getElem?_eq_none (by simp;omega)]at e;cases e
     rw[h0]at e;cases e
     refine⟨v,?_,?_,hx⟩
     . rw[List.getElem?_append_right (by rw[<- hl];exact hj'),<- hl,h0];rfl
     . unfold sV;rw[List.getElem?_eq_none (by rw[<- hp];exact hj')]
 . unfold sV at h1 h2
   cases e1:ι[j]? with
   |none=>rw[e1]at h1;cases h1
   | some i=>
     cases e2:ι[k]? with
     |none=>rw[e2]at h2;cases h2
     | some i'=>
       rw[e1]at h1;rw[e2]at h2;have z:=J.apart i i' a h1 h2;subst z;obtain⟨ha,ea⟩:=List.getElem?_eq_some_iff.mp e1;obtain⟨hb,eb⟩:=List.getElem?_eq_some_iff.mp e2
       exact(List.getElem_inj hι).mp (ea.trans eb.symm)
 . unfold sV at h
   cases e1:ι[j]? with
   |none=>rw[e1]at h;cases h
   |some i=>rw[e1]at h;exact J.live i a h
theorem yJ{me:ag->OE}(h:cf me ρ (x ::xs)=.ok ys):∃ r y zs,me (ρ++[some (.sh x)])=.ok r /\ fq r=some y /\ cf me ρ xs=.ok zs /\ ys=y ::zs:=by
 unfold cf at h
 cases e:me (ρ++[some (.sh x)])with
 | ok r=>
   rw[e]at h;simp only[OE.dk]at h
   cases e2:fq r with
   |none=>rw[e2]at h;cases h
   | some y=>
     rw[e2]at h
     dsimp only at h
     cases e3:cf me ρ xs with
     |ok zs=>rw[e3]at h;cases h;exact⟨r,y,zs,rfl,e2,rfl,rfl⟩
     |exc c fs=>rw[e3]at h;cases h
     |bad=>rw[e3]at h;cases h
 |exc c fs=>rw[e]at h;cases h
 |bad=>rw[e]at h;cases h
theorem kX{J:It}{ι:List Nat}{me:ag->OE}{xs ys:List PV}(hι:ι.Nodup)(he:JE K cls (fun _ _ _ _=>False) te me)(I:SR K cls Av G S₀ ρ σ S H)(hy:cf me (b4 ι ρ) xs=.ok ys)(hl:ys.length<=lim)
  (go:∀ k H' x,ay H H'->xs[k]?=some x->J.go k H' /\ ∀ v H2,J.yld k H' v H2->H2=H' /\ Rep K S x v) (stop:∀ H',ay H H'->J.stop xs.length H')
  (hQ:∀ D S' H',aL S H S' H'->H D=none->S' D=none->(∃ us,H' D=some (.lst us) /\ bq K S' ys us)->Q (.ref D) H'):
  ∀ D,H D=none->∃ W:Nat->Nat->List V->Hp->Prop,(∃ m,W 0 m [] (upd H D (.lst []))) /\ ∀ i m us H',W i m us H' ->
    H' D=some (.lst us) /\ ((J.stop i H' /\ Q (.ref D) H') \/ (J.go i H' /\ ∀ x H2,J.yld i H' x H2->te (L2.E.pick ι σ++[some x]) H2 fun y H3=>H3 D=some (.lst us) /\ us.length<sizeLine /\ ∃ m',m'<m /\ W (i+1) m' (us++[y]) (upd H3 D (.lst (us++[y]))))):=by
 intro D nD
 refine⟨fun k m us H'=>m+k=xs.length /\ H' D=some (.lst us) /\ ∃ S' zs ws,ay S S' /\ ay H H' /\ ay S' H' /\ (∀ b,S' b≠none->S b≠none \/ (H b=none /\ b≠D)) /\ bq K S' zs us /\ cf me (b4 ι ρ) (xs.drop k)=.ok ws /\ ys=zs++ws,
  ⟨xs.length,rfl,aY,S,[],ys,ay.refl _,ay.new nD,I.sh.trans (ay.new nD),fun b z=>.inl z,.nil,hy,rfl⟩,?_⟩
 rintro k m us H' ⟨hm,hD,S',zs,ws,s1,g1,sh1,n1,r1,e1,rfl⟩
 refine⟨hD,?_⟩
 have hSD:S' D=none:=by
  cases q:S' D with
  |none=>rfl
  | some o=>
    rcases n1 D (by rw[q];simp)with z|⟨_,z⟩
    . exact absurd (I.sh.free nD) z
    . exact absurd rfl z
 by_cases hk:k<xs.length
 . refine .inr ?_
   have hx:xs[k]?=some xs[k]:=by simp[hk]
   obtain⟨hgo,hyld⟩:=go k H' xs[k] g1 hx
   refine⟨hgo,fun v H2 hv=>?_⟩
   obtain⟨rfl,rv⟩:=hyld v H2 hv;rw[List.drop_eq_getElem_cons hk]at e1;obtain⟨r,y,zs',em,es,e2,rfl⟩:=yJ e1
   have I1:SR K cls Av G S₀ ρ σ S' H2:=I.grow ⟨s1,g1,sh1,fun b z=>by
    rcases n1 b z with z|⟨z,_⟩
    . exact .inl z
    . exact .inr z⟩
   refine he _ G S₀ _ _ S' H2 _ (I1.pick hι (Rep.mono s1 rv)) ?_;rw[em];intro u S2 H3 w2 r2;obtain⟨S3,w3,s3,ru⟩:=r2.share w2 es
   have hl2:(zs++y ::zs').length<=lim:=hl
   have hSD3:S3 D=none:=by
    cases q:S3 D with
    |none=>rfl
    | some o=>
      rcases w3.new D (by rw[q];simp)with z|z
      . exact absurd hSD z
      . rw[hD]at z;cases z
   refine⟨w3.g _ _ hD,?_,m - 1,by omega,by omega,aY,S3,zs++[y],zs',s1.trans w3.s,(g1.trans w3.g).upd nD,w3.sh.upd hSD3,fun b z=>?_,(r1.mono w3.s).append (.cons ru .nil),e2,by simp⟩
   . rw[r1.length,<- uM];rw[List.length_append,List.length_cons]at hl2;omega
   . rcases w3.new b z with z|z
     . exact n1 b z
     . refine .inr ⟨g1.free z,fun e=>?_⟩;rw[e,hD]at z;cases z
 . have hk':k=xs.length:=by omega
   subst hk';refine .inl ⟨stop H' g1,?_⟩;rw[List.drop_length]at e1;cases e1
   exact hQ D S' H' ⟨s1,g1,sh1,fun b z=>by
    rcases n1 b z with z|⟨z,_⟩
    . exact .inl z
    . exact .inr z⟩ nD hSD ⟨us,hD,by rw[List.append_nil];exact r1⟩
theorem pb{ml me:ag->OE}{ι:List Nat}(hι:ι.Nodup)(hl:JE K cls W tl ml)(he:JE K cls (fun _ _ _ _=>False) te me):JE K cls W (oe (tG K tl) ι te) (nI ml ι me):=by
 intro Av G S₀ ρ σ S H Q I p
 refine hl.go I p fun r v S1 H1 I1 w1 r1 p1=>?_
 have ra:=r1.rd I1.sh
 cases e:r.pv with
 | lst xs=>
   rw[e]at p1 ra;obtain⟨a,vs,rfl,hq,hr⟩:=eU ra
   refine⟨a,rfl,⟨vs,hq⟩,?_⟩
   dsimp only at p1
   cases em:cf me (b4 ι ρ) xs with
   |exc c fs=>rw[em]at p1;exact p1.elim
   |bad=>rw[em]at p1;exact p1.elim
   | ok ys=>
     rw[em]at p1;simp only[noX]at p1;split at p1
     . rename_i hlen
       refine kX hι he I1 em hlen (fun k H' x g hx=>?_) (fun H' g=>⟨vs,ay.seq g hq,by rw[hr.length];exact Nat.le_refl _⟩) fun D S' H' w nD sD ⟨us,hD,rr⟩=>p1 (.ref D) S' H' w ⟨D,us,rfl,nD,sD,hD,rr⟩
       obtain⟨u,hu,ru⟩:=hr.get hx
       refine⟨⟨vs,u,ay.seq g hq,hu⟩,?_⟩
       rintro v' H2 ⟨rfl,hv⟩
       have:=hv vs (ay.seq g hq);rw[hu]at this;cases this
       exact⟨rfl,ru⟩
     . exact p1.elim
 |_=>rw[e]at p1;exact p1.elim
theorem pR{mn me:ag->OE}{ι:List Nat}(hι:ι.Nodup)(hn:JE K cls W tn mn)(he:JE K cls (fun _ _ _ _=>False) te me):JE K cls W (oe (vS (fJ tn j1)) ι te) (nW mn ι me):=by
 intro Av G S₀ ρ σ S H Q I p
 refine hn.go I p fun r v S1 H1 I1 w1 r1 p1=>?_
 have ra:=r1.rd I1.sh
 cases e:r.pv with
 | int j=>
   rw[e]at p1 ra;have hv:=cn ra;subst hv
   dsimp only at p1
   split at p1
   . rename_i hj
     refine⟨j,rfl,hj.1,hj.2,?_⟩
     cases em:cf me (b4 ι ρ) (bX j.toNat)with
     |exc c fs=>rw[em]at p1;exact p1.elim
     |bad=>rw[em]at p1;exact p1.elim
     | ok ys=>
       rw[em]at p1;simp only[noX]at p1;split at p1
       . rename_i hlen
         have hln:(bX j.toNat).length=j.toNat:=by unfold bX;simp
         refine kX hι he I1 em hlen (fun k H' x g hx=>?_) (fun H' g=>by rw[hln];exact Nat.le_refl _) fun D S' H' w nD sD ⟨us,hD,rr⟩=>p1 (.ref D) S' H' w ⟨D,us,rfl,nD,sD,hD,rr⟩
         have hk:k<j.toNat:=by rw[<- hln];exact(List.getElem?_eq_some_iff.mp hx).1
         refine⟨hk,?_⟩
         rintro v' H2 ⟨rfl,rfl⟩
         refine⟨rfl,?_⟩
         have:x=.int (k:Int):=by
          unfold bX at hx;rw[List.getElem?_map,List.getElem?_range hk]at hx
          exact(Option.some.inj hx).symm
         subst this;unfold Rep;rw[Int.zero_add]
       . exact p1.elim
   . exact p1.elim
 |_=>rw[e]at p1;exact p1.elim
theorem bq.begin(h:bq K S xs vs)(N:List Str)(i:Nat)(s:Sl)(e:(eT N.length xs)[i]?=some (some s)):∃ x v,s=.sh x /\ (L2.start N vs)[i]?=some (some v) /\ Rep K S x v:=by
 unfold eT at e
 by_cases hi:i<xs.length
 . rw[List.getElem?_append_left (by simpa using hi),List.getElem?_map]at e
   have hx:xs[i]?=some xs[i]:=by simp[hi]
   rw[hx]at e;cases e;obtain⟨v,hv,r⟩:=h.get hx
   refine⟨_,v,rfl,?_,r⟩
   unfold L2.start;rw[List.getElem?_append_left (by rw[List.length_map,h.length];exact hi),List.getElem?_map,hv];rfl
 . rw[List.getElem?_append_right (by simpa using hi)]at e;rw[List.getElem?_replicate]at e
   split at e<;>cases e
theorem G3{P:Program}{w:World}{mg:Str->Option Value}{base:Heap}{x qual:Str}{st:Stmt}{f:Addr}{fd:FuncData}{N ps:List Str}{k:Nat}{m:ag->OS}(F:Fun K x qual st f fd)(Sc:bx N ps (aG st))
  (hbody:∀(cdv:Value) (A:Around) (outer:List Env) (s:Shared) (H:Hp) (E:XK),hJ k (A.deeper (envOfC qual (aG st) s.heap.objs.size f cdv)) ->
    ∃ t,PSs (nF (CXE P w) P w K mg base N qual (aG st) f cdv A outer s H E) (cZ st) t /\ JS K cls (fun C a _ H=>∀ H',ay H H'->E C a H') t m):cT P w K mg base (CXE P w) (k+1) f fd ps (spP K cls (fnP ps.length N.length m)):=by
 refine okX F Sc (fun vs H Q E h=>?_) fun cdv A outer s H vs Q E hr h=>?_
 . obtain⟨S,xs,_,r,q⟩:=h;unfold fnP at q;split at q
   . rw[r.length];assumption
   . exact q.elim
 . obtain⟨S,xs,sS,r,q⟩:=h;unfold fnP at q;split at q
   . rename_i hl;obtain⟨t,ht,J⟩:=hbody cdv A outer s H E hr
     refine⟨t,ht,?_⟩
     refine J (fun _=>none) H S (eT N.length xs) (start N vs) S H _ ⟨fun _=>[],ay.refl _,ay.refl _,sS,fun _ z=>.inl z,fun i s e=>?_,fun i j a h=>(nomatch h),fun i a h=>(nomatch h),?_⟩ ?_
     . obtain⟨x,v,rfl,e1,rx⟩:=r.begin N i s e
       exact⟨v,e1,rfl,rx⟩
     . unfold eT L2.start;simp[r.length]
     . cases e:m (eT N.length xs)with
       |nx ρ'=>rw[e]at q;exact fun σ' S' H' I' s'=>q .non S' H' ⟨I'.s0,I'.gh,I'.sh,I'.new⟩ (by show Rep K S' _ _;unfold Rep;rfl)
       |bk ρ'=>rw[e]at q;exact q.elim
       |ct ρ'=>rw[e]at q;exact q.elim
       |bad=>rw[e]at q;exact q.elim
       | rt ρ' r=>
         rw[e]at q
         cases r with
         |al ys=>exact q.elim
         |sh y=>exact fun v σ' S' H' b' s' rr=>q v S' H' ⟨b'.s0,b'.gh,b'.sh,b'.new⟩ rr
         |fr ys=>exact fun v σ' S' H' b' s' rr=>q v S' H' ⟨b'.s0,b'.gh,b'.sh,b'.new⟩ rr
       | exc ρ' c fs=>
         rw[e]at q
         exact fun a C σ' S' H' I' s' x H2 g2=>q a C S' H2 ⟨I'.s0,I'.gh.trans g2,I'.sh.trans g2,I'.new⟩ (x.mono (ay.refl _) g2)
   . exact q.elim
noncomputable def sN(K:PySem.W.Frag):Sp:=fun vs H Q _=>∃(a:Addr) (ns:List Int),vs=[.ref a] /\ SqL K H a (ns.map V.int) /\ ns.length<=63 /\ ∀ H',Q (.bl true) H'
theorem AS{f:List PV->OE}(h:∀ ns:List Int,ns.length<=63->f [.lst (ns.map .int)]=.ok (.sh (.bl true)))(vs:List V)(H:Hp)(Q:VK)(E:XK)(q:sN K vs H Q E):spP K cls f vs H Q E:=by
 obtain⟨a,ns,rfl,hS,hl,q⟩:=q
 refine⟨H,[.lst (ns.map .int)],ay.refl _,.cons (by unfold Rep;exact⟨a,_,rfl,hS,bq.ints⟩) .nil,?_⟩
 rw[h ns hl];intro v S' H' w r
 have:v=.bl true:=by have r':Rep K S' (.bl true) v:=r;unfold Rep at r';exact r'
 subst this;exact q H'
end
end L2.P
namespace L2
open PySem PySem.Spec PyProof.Rows
structure QE(X:Cx)(e:Expr)(t:TE):Prop where
 out:PE X e t
structure QA(X:Cx)(es:List Expr)(t:TA):Prop where
 out:PA X es t
structure QS(X:Cx)(st:Stmt)(t:TS):Prop where
 out:PS X st t
structure QSs(X:Cx)(st:List Stmt)(t:TS):Prop where
 out:PSs X st t
structure QT(X:Cx)(e:Expr)(t:TT):Prop where
 out:PT X e t
structure QW(X:Cx)(e:Expr)(t:TT):Prop where
 out:PW X e t
structure QI(X:Cx)(tg e:Expr)(t:TI):Prop where
 out:PI X tg e t
structure QG(X:Cx)(e:Expr)(t:TG):Prop where
 out:PG X e t
structure QO(X:Cx)(e:Option Expr)(t:TO):Prop where
 out:PO X e t
end L2
namespace L2
theorem qau(h:True:=by first|rfl|decide|exact .inl rfl|exact .inr rfl|exact .inr (.inl rfl)|exact .inr (.inr rfl)|assumption|(intro _;rfl)|with_unfolding_all rfl):True:=h
end L2
namespace L2.E
open PySem PySem.Spec PyProof.Rows L2
theorem gN:QE X (Expr.Constant (Const.bool b) j pos) (tC (V.bl b)):=⟨FG ⟩
theorem aa:QE X (Expr.Constant (Const.int i) j pos) (tC (V.int i)):=⟨C7 ⟩
theorem b5:QE X (Expr.Constant (Const.str x) j pos) (tC (V.str x)):=⟨C9 ⟩
theorem uO:QE X (Expr.Constant Const.none j pos) (tC V.non):=⟨DF ⟩
theorem qv{X:Cx}(h1:Nat)(h4:autoParam (X.N[h1]?=some x) qau._auto_1)(h5:autoParam (Vis X.env.scope x) qau._auto_1)(h6:autoParam ((x==Str.ofString "__debug__")=false) qau._auto_1)(h7:autoParam ((x==Str.ofString "__classdict__")=false) qau._auto_1):QE X (Expr.Name x pos) (uR h1):=⟨pv h1 h4 h5 h6 h7⟩
theorem fP{X:Cx}(h5:Gl X x)(h6:X.mg x=some u)(h7:RelV v u)(h8:autoParam ((x==Str.ofString "__debug__")=false) qau._auto_1):QE X (Expr.Name x pos) (tC v):=⟨AE h5 h6 h7 h8⟩
theorem rF{X:Cx}(h5:Gl X x)(h6:X.mg x=none)(h7:bootBuiltins x=some u)(h8:RelV v u)(h9:autoParam (x≠Str.ofString "__name__") qau._auto_1)(h10:autoParam ((x==Str.ofString "__debug__")=false) qau._auto_1):QE X (Expr.Name x pos) (tC v):=⟨AK h5 h6 h7 h8 h9 h10⟩
theorem yM(h4:QE X a ta):QE X (Expr.UnaryOp UnaryOp.Not a pos) (zS ta):=⟨DI h4.out⟩
theorem ku{r:V->Hp->VK->Prop}(h6:UnR X (unaryOp op) r)(h7:QE X a ta):QE X (Expr.UnaryOp op a pos) (tUn r ta):=⟨Fe h6 h7.out⟩
theorem ax(h8:OpR X (binaryOp op) r)(h9:QE X a ta)(h10:QE X b tb):QE X (Expr.BinOp a op b pos) (tOp r ta tb):=⟨Gb h8 h9.out h10.out⟩
theorem dv(h8:OpR X (compareOp op) r)(h9:QE X a ta)(h10:QE X b tb)(h11:behindInMarks op b=false):QE X (Expr.Compare a [op] [b] pos) (tOp r ta tb):=⟨Bk h8 h9.out h10.out h11⟩
theorem nP(h5:QE X a t):QE X (Expr.BoolOp op [a] pos) t:=⟨C1 h5.out⟩
theorem nK{X:Cx}{a:Expr}{b:Expr}{ta:TE}{tb:TE}{pos:Pos}{rest:List Expr}(h7:QE X a ta)(h8:QE X (Expr.BoolOp BoolOp.And (b ::rest) pos) tb):QE X (Expr.BoolOp BoolOp.And (a ::b ::rest) pos) (zi ta tb):=⟨Ee h7.out h8.out⟩
theorem F4{X:Cx}{a:Expr}{b:Expr}{ta:TE}{tb:TE}{pos:Pos}{rest:List Expr}(h7:QE X a ta)(h8:QE X (Expr.BoolOp BoolOp.Or (b ::rest) pos) tb):QE X (Expr.BoolOp BoolOp.Or (a ::b ::rest) pos) (Dg ta tb):=⟨FA h7.out h8.out⟩
theorem jm(h8:QT X c tA)(h9:QE X a ta)(h10:QE X b tb):QE X (Expr.IfExp c a b pos) (tIf tA ta tb):=⟨yG h8.out h9.out h10.out⟩
theorem bJ(h4:QA X es t):QE X (Expr.List es pos) (Bn t):=⟨DA h4.out⟩
theorem cG(h5:QA X es t):QE X (Expr.Tuple es x1 pos) (Di t):=⟨ER h5.out⟩
theorem yw{X:Cx}{e:Expr}{te:TE}{lo:Option Expr}{hi:Option Expr}{tl:TO}{th:TO}{pos:Pos}{p2:Pos}{r:V->Option Int->Option Int->Hp->VK->Prop}(h10:SlR X r)(h11:QE X e te)(h12:QO X lo tl)(h13:QO X hi th):QE X (Expr.Subscript e (Expr.Slice lo hi none p2) pos) (tSl r te tl th):=⟨zK h10 h11.out h12.out h13.out⟩
theorem F6(h7:IxR X r)(h8:QE X a ta)(h9:QE X b tb)(h10:rH b):QE X (Expr.Subscript a b pos) (tOp r ta tb):=⟨Fu h7 h8.out h9.out h10⟩
theorem kY{X:Cx}{cl:List (Str×Addr)}(h12:iy X scope cl M ι x)(h13:X.calm=true)(h14:QI X (Expr.Name x px) iter wi)(h15:∀(C:Addr) (s₀:Shared) (H₀:Hp) (ex:List Addr),QE (blk X scope cl (M++[x]) C s₀ H₀ ex) elt te)(h16:autoParam (∀(v:Value),foldedSetIterable iter X.env v=pure v) qau._auto_1):QE X (Expr.ListComp elt [Comprehension.mk (Expr.Name x px) iter [] 0] scope pos) (oe wi ι te):=⟨B4 h12 h13 h14.out (fun z0 z1 z2 z3=>(h15 z0 z1 z2 z3).out) h16⟩
theorem zI{X:Cx}{x:Str}(h15:cT X.prog X.w X.K X.mg X.base (CXE X.prog X.w) k f fd ps sp)(h16:hJ k X.A)(h17:Gl X x)(h18:X.mg x=some (Value.ref f))(h19:PySem.W.keepIn X.K (Value.ref f)=true)(h20:Binds X.K fd ps ds)(h21:Vals dvs ds)(h22:Thr X W)(h23:QA X (e ::es) t)(h24:autoParam ((x==Str.ofString "__debug__")=false) qau._auto_1)(h25:autoParam (starEach (e ::es) X.env=(false,eval e X.env) ::starEach es X.env) qau._auto_1)(h26:autoParam ((List.any (backTo pos (starEach es X.env)) fun x=>x.fst)=false) qau._auto_1):QE X (Expr.Call (Expr.Name x p) (e ::es) [] pos) (pZ sp dvs W t):=⟨yy h15 h16 h17 h18 h19 h20 h21 h22 h23.out h24 h25 h26⟩
theorem ib{X:Cx}{x:Str}{p:Pos}{pos:Pos}{e:Expr}{es:List Expr}{t:TA}{id:String}{r:List V->Hp->VK->Prop}(h9:iC X (Value.builtin id) r)(h10:Gl X x)(h11:X.mg x=none)(h12:bootBuiltins x=some (Value.builtin id))(h13:QA X (e ::es) t)(h14:autoParam (x≠Str.ofString "__name__") qau._auto_1)(h15:autoParam ((x==Str.ofString "__debug__")=false) qau._auto_1)(h16:autoParam (starEach (e ::es) X.env=(false,eval e X.env) ::starEach es X.env) qau._auto_1)(h17:autoParam ((List.any (backTo pos (starEach es X.env)) fun x=>x.fst)=false) qau._auto_1):QE X (Expr.Call (Expr.Name x p) (e ::es) [] pos) (tCB r t):=⟨zc h9 h10 h11 h12 h13.out h14 h15 h16 h17⟩
theorem dD{X:Cx}{x:Str}{r:List V->Hp->VK->Prop}(h9:iC X (Value.type T) r)(h10:Gl X x)(h11:X.mg x=none)(h12:bootBuiltins x=some (Value.type T))(h13:QA X (e ::es) t)(h14:autoParam (x≠Str.ofString "__name__") qau._auto_1)(h15:autoParam ((x==Str.ofString "__debug__")=false) qau._auto_1)(h16:autoParam (starEach (e ::es) X.env=(false,eval e X.env) ::starEach es X.env) qau._auto_1)(h17:autoParam ((List.any (backTo pos (starEach es X.env)) fun x=>x.fst)=false) qau._auto_1):QE X (Expr.Call (Expr.Name x p) (e ::es) [] pos) (tCB r t):=⟨xl h9 h10 h11 h12 h13.out h14 h15 h16 h17⟩
theorem CQ{X:Cx}{o:Expr}{e:Expr}{es:List Expr}{to:TE}{t:TA}{name:Str}{apos:Pos}{cpos:Pos}{T:String}{id:String}{r:V->List V->Hp->VK->Prop}(h12:PlainAttrs T)(h13:Slot T name id)(h14:typeOf (Value.builtin id)=pure (Value.type "method_descriptor"))(h15:MtR X id r)(h16:QE X o to)(h17:QA X (e ::es) t)(h18:autoParam (attributeBase o name X.env (eval o X.env)=eval o X.env) qau._auto_1)(h19:autoParam ((((List.all (backTo cpos (starEach (e ::es) X.env)) fun x=>!x.fst)&&List.all (backToKw cpos (keywordEach [] X.env)) fun x=>Option.isSome x.fst)&&Decidable.decide ((List.length (e ::es)+List.length ([]:List Keyword)+if List.isEmpty ([]:List Keyword)=true then 0 else 1)<30))=true) qau._auto_1)(h20:autoParam ((apos.endLine==cpos.line)=true) qau._auto_1)(h21:autoParam (starEach (e ::es) X.env=(false,eval e X.env) ::starEach es X.env) qau._auto_1)(h22:autoParam ((List.any (backTo cpos (starEach es X.env)) fun x=>x.fst)=false) qau._auto_1):QE X (Expr.Call (Expr.Attribute o name apos) (e ::es) [] cpos) (tBM X.K T r to t):=⟨FO h12 h13 h14 h15 h16.out h17.out h18 h19 h20 h21 h22⟩
theorem D7{X:Cx}{o:Expr}{to:TE}{name:Str}{apos:Pos}{cpos:Pos}{T:String}{id:String}{r:V->List V->Hp->VK->Prop}(h9:PlainAttrs T)(h10:Slot T name id)(h11:typeOf (Value.builtin id)=pure (Value.type "method_descriptor"))(h12:MtR X id r)(h13:QE X o to)(h14:autoParam (attributeBase o name X.env (eval o X.env)=eval o X.env) qau._auto_1)(h15:autoParam ((apos.endLine==cpos.line)=true) qau._auto_1):QE X (Expr.Call (Expr.Attribute o name apos) [] [] cpos) (El X.K T r to):=⟨Dz h9 h10 h11 h12 h13.out h14 h15⟩
theorem Bq:QO X none rN:=⟨Az ⟩
theorem Ay(h3:QE X e te):QO X (some e) (zY te):=⟨BZ h3.out⟩
theorem av:QA X [] j1:=⟨EJ ⟩
theorem af(h5:QE X e te)(h6:QA X es t)(h7:autoParam (isStar e=false) qau._auto_1):QA X (e ::es) (fJ te t):=⟨yN h5.out h6.out h7⟩
theorem iK(h8:OpR X (compareOp op) r)(h9:QE X a ta)(h10:QE X b tb)(h11:behindInMarks op b=false):QT X (Expr.Compare a [op] [b] pos) (qS (tOp r ta tb)):=⟨AN h8 h9.out h10.out h11⟩
theorem zT(h12:OpR X (compareOp op) r)(h13:OpR X (compareOp op') r')(h14:QE X a ta)(h15:QE X b tb)(h16:QE X c tc)(h17:autoParam (lastMarks [op,op'] [b,c]=false) qau._auto_1):QT X (Expr.Compare a [op,op'] [b,c] pos) (qS (vn r r' ta tb tc)):=⟨yh h12 h13 h14.out h15.out h16.out h17⟩
theorem u2(h4:QT X a tA):QT X (Expr.UnaryOp UnaryOp.Not a pos) (EX tA):=⟨EW h4.out⟩
theorem bW{X:Cx}(h3:QE X a ta)(h4:∀(whole:Sem Value),
 isTrue a X.env whole=do
  let v <- whole
  standAt (Expr.pos a)
  holding [v] (truthy v)):QT X a fun σ H Q=>ta σ H fun x H'=>∃ k,xN X.K x H' k /\ Q k H':=⟨yk h3.out h4⟩
theorem j0(h3:QW X e t):QT X e t:=⟨PW.pt h3.out⟩
theorem gR(h4:QT X a tA):QW X (Expr.BoolOp BoolOp.And [a] pos) tA:=⟨BR h4.out⟩
theorem vC(h4:QT X a tA):QW X (Expr.BoolOp BoolOp.Or [a] pos) tA:=⟨DS h4.out⟩
theorem iw{X:Cx}{a:Expr}{b:Expr}{pos:Pos}{tA:TT}{tB':TT}{rest:List Expr}(h7:QT X a tA)(h8:QW X (Expr.BoolOp BoolOp.And (b ::rest) pos) tB'):QW X (Expr.BoolOp BoolOp.And (a ::b ::rest) pos) (D8 tA tB'):=⟨DO h7.out h8.out⟩
theorem zp{X:Cx}{a:Expr}{b:Expr}{pos:Pos}{tA:TT}{tB':TT}{rest:List Expr}(h7:QT X a tA)(h8:QW X (Expr.BoolOp BoolOp.Or (b ::rest) pos) tB'):QW X (Expr.BoolOp BoolOp.Or (a ::b ::rest) pos) (tOr tA tB'):=⟨FU h7.out h8.out⟩
theorem fH{X:Cx}(h6:Gl X (Str.ofString "range"))(h7:X.mg (Str.ofString "range")=none)(h8:QA X [a] ta)(h9:autoParam (starEach [a] X.env=[(false,eval a X.env)]) qau._auto_1):QI X tg (Expr.Call (Expr.Name (Str.ofString "range") p) [a] [] pos) (vS ta):=⟨xF h6 h7 h8.out h9⟩
theorem gj{X:Cx}(h4:QE X l tl):QI X tg l (tG X.K tl):=⟨BK h4.out⟩
theorem CY{X:Cx}{pos:Pos}(h7:List.Nodup X.N)(h8:X.N[i]?=some x)(h9:Loc X.env.scope x)(h10:QE X e te)(h11:autoParam (swapsWith e (some (Expr.Name x pos')) pos.line X.env=pure false) qau._auto_1)(h12:autoParam (X.fn x=true \/ List.lookup x X.env.scope.names=some NameKind.local) qau._auto_1):QS X (Stmt.Assign [Expr.Name x pos'] e pos) (nT te (gH i)):=⟨E0 h7 h8 h9 h10.out h11 h12⟩
theorem sT{X:Cx}{pos:Pos}(h6:QE X e te)(h7:QG X tg g)(h8:autoParam (swapsWithSole [tg] e pos.line X.env=pure false) qau._auto_1)(h9:autoParam (swappedStores [tg] e X.env=pure none) qau._auto_1)(h10:autoParam (List.map (fun x=>x.snd) (assignEach [tg] X.env)=[assign tg X.env]) qau._auto_1):QS X (Stmt.Assign [tg] e pos) (nT te g):=⟨EC h6.out h7.out h8 h9 h10⟩
theorem bD(h8:QT X c tc)(h9:QSs X a t)(h10:QSs X b u):QS X (Stmt.If c a b pos) (En tc t u):=⟨Ff h8.out h9.out h10.out⟩
theorem bc(h4:QE X e te):QS X (Stmt.Return (some e) pos) (Bi te):=⟨C8 h4.out⟩
theorem wQ{X:Cx}{pos:Pos}(h4:QE X e te)(h5:autoParam (swapsWith e none pos.line X.env=pure false) qau._auto_1):QS X (Stmt.Expr e pos) (pG te):=⟨BA h4.out h5⟩
theorem tY{X:Cx}(h6:PassesOwn (model X.prog X.w) X.A X.env X.xe)(h7:QT X c tc)(h8:QSs X body tb):QS X (Stmt.While c body [] pos) (uI tc tb):=⟨zP h6 h7.out h8.out⟩
theorem ig{X:Cx}(h8:PassesOwn (model X.prog X.w) X.A X.env X.xe)(h9:X.calm=true)(h10:QI X tg iter wi)(h11:QG X tg g)(h12:QSs X body tb)(h13:autoParam (∀(x:Value),foldedSetIterable iter X.env x=pure x) qau._auto_1):QS X (Stmt.For tg iter body [] pos) (yq wi g tb):=⟨Dc h8 h9 h10.out h11.out h12.out h13⟩
theorem fj{X:Cx}(h4:List.Nodup X.N)(h5:X.N[i]?=some x)(h6:Loc X.env.scope x)(h7:autoParam (X.fn x=true \/ List.lookup x X.env.scope.names=some NameKind.local) qau._auto_1):QG X (Expr.Name x pos) (gH i):=⟨AA h4 h5 h6 h7⟩
theorem aT:QSs X [] yz:=⟨A6 ⟩
theorem aw{X:Cx}{st:Stmt}{t:TS}(h3:QS X st t):QSs X [st] t:=⟨A1 h3.out⟩
theorem aj{X:Cx}{st:Stmt}{rest:List Stmt}{t:TS}{u:TS}(h5:QS X st t)(h6:QSs X rest u):QSs X (st ::rest) (Dx t u):=⟨zH h5.out h6.out⟩
end L2.E
namespace L2.P
open PySem PySem.Spec PyProof.Rows L2 L2.E
theorem iA{K:PySem.W.Frag}{cls:String->Option Addr}{P:Program}{w:World}{mg:Str->Option Value}{base:Heap}{x qual:Str}{st:Stmt}{f:Addr}{fd:FuncData}{N ps:List Str}{k:Nat}{m:ag->OS}(F:Fun K x qual st f fd)(Sc:bx N ps (aG st))
  (hbody:∀(cdv:Value) (A:Around) (outer:List Env) (s:Shared) (H:Hp) (E:XK),hJ k (A.deeper (envOfC qual (aG st) s.heap.objs.size f cdv)) ->
    ∃ t,QSs (nF (CXE P w) P w K mg base N qual (aG st) f cdv A outer s H E) (cZ st) t /\ JS K cls (fun C a _ H=>∀ H',ay H H'->E C a H') t m):cT P w K mg base (CXE P w) (k+1) f fd ps (spP K cls (fnP ps.length N.length m)):=
 G3 F Sc fun cdv A outer s H E hr=>let ⟨t,h1,h2⟩:=hbody cdv A outer s H E hr;⟨t,h1.out,h2⟩
end L2.P
namespace L2.E
open PySem PySem.Spec PyProof.Rows L2
end L2.E
namespace L2.P
open PySem PySem.Spec PyProof.Rows L2 L2.E
end L2.P
namespace L2.E
open PySem PySem.Spec PyProof.Rows L2
section
variable{prog:Program}{w:World}{A:Around}{E:Value->Shared->Prop}{s:Shared}{K:PySem.W.Frag}{x C:Addr}{name:Str}{v:Value}
open PySem.W in
open PySem.W in
end
noncomputable def FV(a C:Addr)(dx:Option Addr)(h:Heap):Prop:=∃ o t,h.get? a=some o /\ o.cls=.ref C /\ o.dict=dx /\ o.data=.fields #[.ref t,.none,.none,.none,.bool false,.none]
theorem FV.exc{a C:Addr}{dx:Option Addr}{h:Heap}(x:FV a C dx h):Dk a C dx h:=let ⟨o,t,e,c,d,f⟩:=x;⟨o,_,e,c,d,f,rfl⟩
section
variable{prog:Program}{w:World}{A:Around}{E:Value->Shared->Prop}{s:Shared}{K:PySem.W.Frag}{x C:Addr}{name:Str}{v:Value}{tk:Tok}
open PySem.W in
end
section
variable{prog:Program}{w:World}{A:Around}{E:Value->Shared->Prop}{hh:Heap}{g:Array GenState}{d:Drawn}{t:Nat}{os:OsState}{K:PySem.W.Frag}{x C:Addr}{name:Str}{v:Value}{tk:Tok}
open PySem.W in
end
section
variable{prog:Program}{w:World}{A:Around}{E:Value->Shared->Prop}{s:Shared}{K:PySem.W.Frag}{x C:Addr}{name:Str}{v:Value}
open PySem.W in
end
section
variable{prog:Program}{w:World}{A:Around}{E:Value->Shared->Prop}{h:Heap}{g:Array GenState}{d:Drawn}{t:Nat}{os:OsState}{K:PySem.W.Frag}
variable{nm q:Str}{C N:Addr}{bs bm bmB:List Value}{hdct:Bool}{sn:List Str}{sub:List Value}{ab:Bool}{col:Option Bool}{dd:Option Addr}{k0 k1 k2 k3 k5:Option Value}{B newId initId:String}
open PySem.W in
open PySem.W in
end
theorem so{X:Cx}{o i:Expr}{to ti:TE}{t:BQ}{pos:Pos}(ho:QE X o to)(hi:QE X i ti)(hs:DX X t)
  (ha:∀ v,assign (.Subscript o i pos) X.env v=(do
    let ov <- holding [v] (eval o X.env)
    let iv <- holding [v,ov] (eval i X.env)
    standAt pos
    holding [v,ov,iv] (setItem ov iv v)
    release [v,ov,iv] []):=by intro _;rfl):QG X (.Subscript o i pos) (EA to ti t):=⟨DV ho.out hi.out hs ha⟩
end L2.E
namespace L2.P
open PySem PySem.Spec PyProof.Rows L2 L2.E
end L2.P
namespace L2.P
open PySem
inductive Stp where
 |ix (k:Nat)|fd (f:Str)
noncomputable def q8:List Str->List OV->Str->Option OV
 |k ::ks,t ::ts,f=>if k=f then some t else q8 ks ts f
 |_,_,_=>none
noncomputable def zV:List Str->List OV->Str->OV->List OV
 |k ::ks,t ::ts,f,u=>if k=f then u ::ts else t ::zV ks ts f u
 |_,ts,_,_=>ts
noncomputable def OV.at1:OV->Stp->Option OV
 |.ol ts,.ix k=>ts[k]?
 |.ob _ ks ts,.fd f=>q8 ks ts f
 |_,_=>none
noncomputable def OV.gY:OV->Stp->OV->OV
 |.ol ts,.ix k,u=>.ol (ts.set k u)
 |.ob c ks ts,.fd f,u=>.ob c ks (zV ks ts f u)
 |t,_,_=>t
noncomputable def OV.get:OV->List Stp->Option OV
 |t,[]=>some t
 |t,s ::π=>(t.at1 s).bind fun u=>u.get π
noncomputable def OV.put:OV->List Stp->OV->OV
 |_,[],u=>u
 | t,s ::π,u=>match t.at1 s with
   |some t'=>t.gY s (t'.put π u)
   |none=>t
noncomputable def slT:Sl->Option OV
 |.tr _ t=>some t
 |.bo t=>some t
 |_=>none
noncomputable def eS(i:Nat)(ρ:ag):Option OV:=match ρ[i]? with
 |some (some s)=>slT s
 |_=>none
abbrev MP:=ag->Option (List Stp)
noncomputable def aB:MP:=fun _=>some []
noncomputable def pIx(i:Nat)(mp:MP)(mk:ag->OE):MP:=fun ρ=>match eS i ρ with
 | some t=>(match mp ρ with
   | some π=>(match t.get π with
     | some (.ol ts)=>(match mk ρ with
       | .ok r=>(match r.pv with
         |.int k=>(ixP ts.length k).map fun j=>π++[.ix j]
         |_=>none)
       |_=>none)
     |_=>none)
   |none=>none)
 |none=>none
noncomputable def subAt(i:Nat)(mp:MP)(ρ:ag):Option OV:=match eS i ρ with
 | some t=>(match mp ρ with
   |some π=>t.get π
   |none=>none)
 |none=>none
noncomputable def pC:List OV->Option (List PV)
 |[]=>some []
 |.sh x ::r=>(pC r).map (x ::·)
 |_ ::_=>none
@[simp] theorem E6(xs:List PV):pC (xs.map .sh)=some xs:=by
  induction xs with
  |nil=>rfl
  |cons x xs ih=>show(pC (xs.map .sh)).map (x ::·)=_;rw[ih];rfl
noncomputable def cj(i:Nat)(mp:MP):ag->OE:=fun ρ=>match subAt i mp ρ with
 |some (.sh x)=>.ok (.sh x)
 | some (.ol ts)=>(match pC ts with
   |some xs=>.ok (.al xs)
   |none=>.bad)
 |_=>.bad
noncomputable def cp(i:Nat)(mp:MP):ag->OT:=fun ρ=>match subAt i mp ρ with
 |some (.ol ts)=>.ok (!ts.isEmpty)
 |_=>.bad
noncomputable def dy(i:Nat)(mp:MP):ag->OE:=fun ρ=>match subAt i mp ρ with
 |some (.ol ts)=>.ok (.sh (.int ts.length))
 |_=>.bad
inductive OD where
 |ok (t:OV)|exc (c:String) (fs:XF)|bad
inductive ODs where
 |ok (ts:List OV)|exc (c:String) (fs:XF)|bad
noncomputable def mD(me:ag->OE):ag->OD:=fun ρ=>match me ρ with
 |.ok (.sh x)=>.ok (.sh x)
 |.ok (.fr xs)=>.ok (.ol (xs.map .sh))
 |.ok (.al _)=>.bad
 |.exc c fs=>.exc c fs
 |.bad=>.bad
noncomputable def mDn:ag->ODs:=fun _=>.ok []
noncomputable def mDc(md:ag->OD)(mr:ag->ODs):ag->ODs:=fun ρ=>match md ρ with
 | .ok t=>(match mr ρ with
   |.ok ts=>.ok (t ::ts)
   |.exc c fs=>.exc c fs
   |.bad=>.bad)
 |.exc c fs=>.exc c fs
 |.bad=>.bad
noncomputable def mDl(mr:ag->ODs):ag->OD:=fun ρ=>match mr ρ with
 |.ok ts=>if ts.length<=lim then .ok (.ol ts)else .bad
 |.exc c fs=>.exc c fs
 |.bad=>.bad
noncomputable def jZ(i:Nat)(md:ag->OD):ag->OS:=fun ρ=>match md ρ with
 |.ok t=>.nx (ρ.set i (some (.tr false t)))
 |.exc c fs=>.exc ρ c fs
 |.bad=>.bad
noncomputable def pY(i:Nat)(mp:MP)(ρ:ag)(k:OV->(OV->ag)->OS):OS:=match ρ[i]? with
 | some (some (.tr io t))=>(match mp ρ with
   | some π=>(match t.get π with
     |some u=>k u fun u'=>ρ.set i (some (.tr io (t.put π u')))
     |none=>.bad)
   |none=>.bad)
 |_=>.bad
noncomputable def br(i:Nat)(mp:MP)(md:ag->OD):ag->OS:=fun ρ=>pY i mp ρ fun u put=>match u with
 | .ol ts=>(match md ρ with
   |.ok x=>if ts.length<lim then .nx (put (.ol (ts++[x])))else .bad
   |.exc c fs=>.exc ρ c fs
   |.bad=>.bad)
 |_=>.bad
noncomputable def kD(i:Nat)(mp:MP)(mk:ag->OE)(md:ag->OD):ag->OS:=fun ρ=>match md ρ with
 | .ok x=>pY i mp ρ fun u put=>(match u with
   | .ol ts=>(mk ρ).bU ρ fun r=>(match r.pv with
     | .int k=>(match ixP ts.length k with
       |some j=>.nx (put (.ol (ts.set j x)))
       |none=>.bad)
     |_=>.bad)
   |_=>.bad)
 |.exc c fs=>.exc ρ c fs
 |.bad=>.bad
inductive OX where
 |ok (ρ:ag) (s:Sl)|exc (ρ:ag) (c:String) (fs:XF)|bad
noncomputable def slO:OV->Sl
 |.sh x=>.sh x
 |t=>.tr false t
noncomputable def qG(i:Nat)(mp:MP):ag->OX:=fun ρ=>match ρ[i]? with
 | some (some (.tr io t))=>(match mp ρ with
   | some π=>(match t.get π with
     | some (.ol ts)=>(match ts.getLast? with
       |some x=>.ok (ρ.set i (some (.tr io (t.put π (.ol ts.dropLast))))) (slO x)
       |none=>.bad)
     |_=>.bad)
   |none=>.bad)
 |_=>.bad
noncomputable def nio:Sl->Bool
 |.tr true _=>false
 |.bo _=>false
 |_=>true
noncomputable def jj(i:Nat)(m:ag->OX):ag->OS:=fun ρ=>match m ρ with
 |.ok ρ' s=>if nio s then .nx (ρ'.set i (some s))else .bad
 |.exc ρ' c fs=>.exc ρ' c fs
 |.bad=>.bad
mutual
noncomputable def pvO:OV->Option PV
 |.sh x=>some x
 |.ol ts=>(p9 ts).map .lst
 |.ob _ _ _=>none
 |.di _=>none
 |.dt _=>none
noncomputable def p9:List OV->Option (List PV)
 |[]=>some []
 |t ::ts=>(pvO t).bind fun x=>(p9 ts).map (x ::·)
end
noncomputable def jV(i:Nat)(ρ:ag):ag:=match ρ[i]? with
 | some (some (.tr false t))=>(match pvO t with
   |some x=>ρ.set i (some (.sh x))
   |none=>ρ)
 |_=>ρ
noncomputable def ij(i:Nat)(m:ag->OS):ag->OS:=fun ρ=>m (jV i ρ)
inductive OI where
 |ok (x:PV) (outs:List (Option OV))|exc (c:String) (fs:XF) (outs:List (Option OV))|bad
inductive Arg where
 |e (me:ag->OE)|t (i:Nat) (mp:MP)|b (i:Nat) (mp:MP)
noncomputable def mT:Option Sl->Option OV
 |some (.tr true t)=>some t
 |_=>none
noncomputable def vp(np:Nat):OS->OI
 |.nx ρ=>.ok .non ((ρ.take np).map mT)
 |.rt ρ (.sh x)=>.ok x ((ρ.take np).map mT)
 |.exc ρ c fs=>.exc c fs ((ρ.take np).map mT)
 |_=>.bad
noncomputable def iZ(n:Nat)(as:List Sl):ag:=as.map some++List.replicate (n - as.length) none
noncomputable def fnI(np n:Nat)(m:ag->OS)(as:List Sl):OI:=if as.length=np then vp np (m (iZ n as))else .bad
noncomputable def xT(a:Arg)(ρ:ag):Option Sl:=match a with
 | .e me=>(match me ρ with
   |.ok r=>(fq r).map .sh
   |_=>none)
 | .t i mp=>(match ρ[i]? with
   |some (some (.tr _ t))=>((mp ρ).bind fun π=>t.get π).map (.tr true)
   |_=>none)
 |.b i mp=>(subAt i mp ρ).map .bo
noncomputable def mU:List Arg->ag->Option (List Sl)
 |[],_=>some []
 |a ::as,ρ=>(xT a ρ).bind fun s=>(mU as ρ).map (s ::·)
noncomputable def i4(ρ₀:ag):Arg->Option OV->ag->ag
 | .t i mp,some u,ρ=>(match ρ[i]? with
   | some (some (.tr io t))=>(match mp ρ₀ with
     |some π=>ρ.set i (some (.tr io (t.put π u)))
     |none=>ρ.set i none)
   |_=>ρ.set i none)
 |.t i _,none,ρ=>ρ.set i none
 |_,_,ρ=>ρ
noncomputable def dJ(ρ₀:ag):List Arg->List (Option OV)->ag->ag
 |[],_,ρ=>ρ
 |a ::as,us,ρ=>dJ ρ₀ as us.tail (i4 ρ₀ a us.head?.join ρ)
noncomputable def iY(f:List Sl->OI)(as:List Arg):ag->OX:=fun ρ=>match mU as ρ with
 | some ss=>(match f ss with
   |.ok x outs=>.ok (dJ ρ as outs ρ) (.sh x)
   |.exc c fs outs=>.exc (dJ ρ as outs ρ) c fs
   |.bad=>.bad)
 |none=>.bad
noncomputable def HR(c:String)(f:List Sl->OI):ag->OD:=fun _=>match f [.tr true (.ob c [] [])]with
 |.ok .non (some t ::_)=>.ok t
 |_=>.bad
noncomputable def i9(i j:Nat)(mb:ag->OS):List PV->ag->OS
 |[],ρ=>.nx ρ
 |.tup [x,y] ::xs,ρ=>(mb ((ρ.set i (some (.sh x))).set j (some (.sh y)))).turn (i9 i j mb xs)
 |_ ::_,_=>.bad
noncomputable def oA(k:Nat):List PV->List PV
 |[]=>[]
 |x ::xs=>.tup [.int k,x] ::oA (k+1) xs
noncomputable def wU(i j:Nat)(ml:ag->OE)(mb:ag->OS):ag->OS:=fun ρ=>(ml ρ).bU ρ fun r=>match ux r with
 |some xs=>i9 i j mb (oA 0 xs) ρ
 |none=>.bad
noncomputable def Es(ml:ag->OE)(ι:List Nat)(me:ag->OE):ag->OE:=fun ρ=>(ml ρ).bind fun r=>match r.pv with
 |.tup xs=>noX (cf me (b4 ι ρ) xs)
 |_=>.bad
noncomputable def eZ(mc:ag->OT)(me:ag->OE)(ρ:ag):List PV->OA
 |[]=>.ok []
 | x ::xs=>(match mc (ρ++[some (.sh x)])with
   | .ok true=>(me (ρ++[some (.sh x)])).dk fun r=>(match fq r with
     |some y=>(eZ mc me ρ xs).dk fun ys=>.ok (y ::ys)
     |none=>.bad)
   |.ok false=>eZ mc me ρ xs
   |_=>.bad)
noncomputable def gA(ml:ag->OE)(ι:List Nat)(mc:ag->OT)(me:ag->OE):ag->OE:=fun ρ=>(ml ρ).bind fun r=>match r.pv with
 |.lst xs=>noX (eZ mc me (b4 ι ρ) xs)
 |_=>.bad
noncomputable def iT:PV->Option RV
 |.lst xs=>some (.sh (.tup xs))
 |.tup xs=>some (.sh (.tup xs))
 |_=>none
mutual
noncomputable def je:PV->PV->Bool
 |.non,y=>(match y with|.non=>true|_=>false)
 |.bl a,y=>(match y with|.bl b=>a==b|.int j=>(if a then 1 else 0)==j|_=>false)
 |.int i,y=>(match y with|.bl b=>i==(if b then 1 else 0)|.int j=>i==j|_=>false)
 |.str x,y=>(match y with|.str z=>x==z|_=>false)
 |.lst xs,y=>(match y with|.lst ys=>Ak xs ys|_=>false)
 |.tup xs,y=>(match y with|.tup ys=>Ak xs ys|_=>false)
noncomputable def Ak:List PV->List PV->Bool
 |[],ys=>(match ys with|[]=>true|_ ::_=>false)
 |x ::xs,ys=>(match ys with|y ::ys=>je x y&&Ak xs ys|[]=>false)
end
noncomputable def dO:PV->Bool
 |.lst _=>false
 |.tup _=>false
 |_=>true
noncomputable def nM:PV->PV->Option Bool
 |x,.tup ys=>if ys.all dO=true then some (ys.any fun y=>je y x)else none
 |x,.lst ys=>if ys.all dO=true then some (ys.any fun y=>je y x)else none
 |_,_=>none
noncomputable def gIn:PV->PV->Option RV:=fun x y=>(nM x y).map fun b=>.sh (.bl b)
end L2.P
namespace L2
open PySem PySem.Spec PyProof.Rows
section
variable{X:Cx}{pins:List (Addr×Obj)}{σ:St}{H:Hp}{s:Shared}{h':Heap}
theorem Inv.xP{t':Nat}{its:List Addr}{a:Addr}{o:HO}(I:Inv X pins σ H s)(k:∀ b u,b∉its->s.heap.get? b=some u->h'.get? b=some u)(hf:∀ b∈its,jk X pins H b)
  (hp:s.heap.objs.size<=a) (new:dA X.prog X.w (upd H a o) h' a o):Inv X pins σ (upd H a o) { s with heap:=h',toks:=t' }:=by
 have hn:=I.hok.fresh hp
 have nit:∀ b u,H b=some u->b∉its:=fun b u e z=>by rw[(hf b z).1]at e;cases e
 refine I.step (g':=s.gens) (d':=s.drawn) (ch:=its) (fun b hb=>?_) (fun b u _ _ hc e _=>k b u hc e) (fun b u _ _ hc e _=>⟨u.slots,k b u hc e⟩)
  (fun b u _ q n=>by rw[bj (Nat.ne_of_lt (Nat.lt_of_lt_of_le (Heap.lt_size q) hp))];exact n)
  (fun b u hc e=>⟨u,k b u hc e⟩) (fun b xs q=>by rw[bj (cB q hn)];exact q) (fun b u xs q=>by rw[bj (cB q hn)];exact q) (fun b ps q=>⟨#[],by rw[bj (cB q hn),q];simp⟩) (fun m hm=>?_) (fun b u e=>?_) I.bare
 . obtain⟨_,f1,f2,f3,f4,f5⟩:=hf b hb
   exact⟨f3,f1,f4,f5⟩
 . obtain⟨ob,es,ep,ho,r⟩:=hm
   exact⟨ob,es,ep,k _ ob (fun z=>(hf _ z).2.1 rfl) ho,r⟩
 . by_cases hb:b=a
   . subst hb;rw[aY]at e;cases e;exact new
   . rw[bj hb]at e
     refine(I.hok b u e).oI (fun c v hc q=>k c v ?_ q) (fun c q=>by rw[bj (cB q hn)];exact q) fun c xs q=>by rw[bj (cB q hn)];exact q
     rcases hc with z|z
     . rw[z];exact nit b u e
     . exact nit c _ z
end
noncomputable def Ite(K:PySem.W.Frag)(a:Addr):It:=
 ⟨fun i H=>∃ xs x,SqL K H a xs /\ xs[i]?=some x,fun i H v H'=>∃ t x,(∀ xs,SqL K H a xs->xs[i]?=some x) /\ H t=none /\ v=.ref t /\ H'=upd H t (.tup [.int i,x]),fun i H=>∃ xs,SqL K H a xs /\ xs.length<=i⟩
theorem xK{P:Program}{w:World}{K:PySem.W.Frag}{elts:List Expr}{k:Nat}{pos:Pos}(a e it:Addr)(hei:e≠it):
  Turn P w K (.Tuple elts k pos) (Ite K a) [e,it] e (fun i h=>(∃ old,IsEnum h e it i old) /\ h.IsListIter it a i) where
 mem:=by simp
 obj:=fun i h st b hb=>by
  obtain⟨⟨old,h1⟩,o,h2,c,d⟩:=st
  rcases List.mem_cons.mp hb with z|z
  . subst z;exact⟨_,h1,fun v z=>by cases z⟩
  . have z':b=it:=by simpa using z
    subst z';exact⟨o,h2,fun v z=>by rw[d]at z;cases z⟩
 keep:=fun i h h' st k=>by
  obtain⟨⟨old,h1⟩,h2⟩:=st
  exact⟨⟨old,k e (by simp) _ h1⟩,h2.at fun o x=>k it (by simp) o x⟩
 item:=by
  intro X hP hw hK hc i pins s σ H E I hf st hg;subst hP hw hK;obtain⟨xs,x,hq,hx⟩:=hg;obtain⟨its,rv,p,hz⟩:=I.list hq;obtain⟨u,hu,ru⟩:=rv.get hx;obtain⟨⟨old,he⟩,hit⟩:=st
  refine wpAny_pyNext_enum_item he hit p.isList (x:=u) (by simpa using hu) hei fun h1 ho hit1 hT hsz hk=>⟨_,rfl,?_⟩
  refine wpAny_letOwnedTupleGo_enum ho fun h2 he2 hs2=>?_
  have hT2:h2.get? s.heap.objs.size=some { cls:=.type "tuple",data:=.seq #[.int i s.toks,u] }:=(hs2.2 _ (Nat.ne_of_gt (Heap.lt_size he))).trans hT
  have nH:H s.heap.objs.size=none:=I.hok.fresh (Nat.le_refl _)
  refine⟨.ref s.heap.objs.size,upd H s.heap.objs.size (.tup [.int i,x]),I.xP (its:=[e,it]) (t':=s.toks+1) (fun b o hb q=>?_) hf (Nat.le_refl _) ?_,rfl,⟨_,x,fun ys hy=>by rw[I.um hy hq];exact hx,nH,rfl,rfl⟩,⟨⟨u,by simpa using he2⟩,?_⟩,fun b hb=>?_⟩
  . have nb:b≠e /\ b≠it:=by simpa using hb
    exact(hs2.2 b nb.1).trans (hk b o nb.1 nb.2 q)
  . exact⟨by show 2<=sizeLine;decide,[.int i s.toks,u],.cons ⟨_,rfl⟩ (.cons ru .nil),⟨_,hT2,rfl,_,rfl⟩⟩
  . exact hit1.at fun o y=>(hs2.2 it hei.symm).trans y
  . have:b < s.heap.objs.size:=by
     rcases List.mem_cons.mp hb with z|z
     . subst z;exact Heap.lt_size he
     . have z':b=it:=by simpa using z
       subst z';obtain⟨_,y,_⟩:=hit;exact Heap.lt_size y
    rw[bj (Nat.ne_of_lt this)]
    exact(hf b hb).1
 done:=by
  intro X hP hw hK hc i pins s σ H E I hf st hg;subst hP hw hK;obtain⟨xs,hq,hx⟩:=hg;obtain⟨its,rv,p,hz⟩:=I.list hq;obtain⟨⟨old,he⟩,hit⟩:=st;obtain⟨f0,f1,f2,f3,f4,f5⟩:=hf it (by simp);have hl:=rv.length
  exact wpAny_pyNext_enum_end (I.ok.hd hc) he hit p.isList (by simp;omega) fun h' eb=>⟨rfl,I.turned (t':=s.toks) (fun b o hb e=>eb b o hb e) f0 f1 f3 f4 f5⟩
 self:=fun _ _ _ _ _ st h=>by
  obtain⟨⟨old,he⟩,_⟩:=st;exact wpAny_pyIter_enum he h
section
variable{X:Cx}
noncomputable def zJ(K:PySem.W.Frag)(ta:TA):TI:=fun σ H R=>ta σ H fun vs H1=>∃ a,vs=[.ref a] /\ (∃ xs,SqL K H1 a xs) /\ R (Ite K a) H1
theorem Bm{elts:List Expr}{k:Nat}{tp:Pos}{a:Expr}{ta:TA}{p pos:Pos}(hg:Gl X "enumerate")(hm:X.mg "enumerate" = none)(ha:PA X [a] ta)(hs:starEach [a] X.env=[(false,eval a X.env)]:=by rfl):
  PI X (.Tuple elts k tp) (.Call (.Name "enumerate" p) [a] [] pos) (zJ X.K ta):=by
 intro pins s σ H R I h;refine Call_ (qf I hg hm (show bootBuiltins "enumerate" = some (.type "enumerate") by rfl) (PyProof.Rows.callWith_type1 (thn (ha pos pins s σ H _ I h) fun us s1 ⟨vs,H1,I1,r1,q1⟩=>?_) hs rfl));obtain⟨l,e,⟨xs,hq⟩,q⟩:=q1;subst e
 cases r1 with
 | cons r rr=>
   cases rr;cases r;obtain⟨its,rv,p,hz⟩:=I1.list hq
   refine call_enumerate_list p.isList fun h' he hit hsz hk=>?_
   refine wpAny_pyIter_enum he ?_
   have I2:Inv X pins σ H1 { s1 with heap:=h' }:=I1.kept (t':=s1.toks) hk
   refine⟨s1.heap.objs.size+1,[s1.heap.objs.size+1,s1.heap.objs.size],_,_,H1,rfl,I2,xK l _ _ (Nat.succ_ne_self _),⟨⟨.none,he⟩,hit⟩,fun b hb=>?_,q⟩
   have:s1.heap.objs.size<=b:=by
    rcases List.mem_cons.mp hb with z|z
    . subst z;exact Nat.le_succ _
    . have z':b=s1.heap.objs.size:=by simpa using z
      subst z';exact Nat.le_refl _
   exact I1.xC this (I1.hok.fresh this)
end
theorem yg{K:PySem.W.Frag}{a:Addr}{xs:List V}{g:TG}{tb:TS}{D:Ends}{σ:St}{H:Hp}(Pv:Nat->St->Hp->Prop)(h0:Pv 0 σ H)(hl:∀ i σ H,i<=xs.length->Pv i σ H->SqL K H a xs)
  (hs:∀ i x σ H t,xs[i]?=some x->Pv i σ H->H t=none->g (.ref t) σ (upd H t (.tup [.int i,x])) fun σ2 H2=>tb { D with nx:=Pv (i+1),ct:=Pv (i+1),bk:=D.nx } σ2 H2) (hd:∀ σ H,Pv xs.length σ H->D.nx σ H):
  ∃ W:Nat->Nat->St->Hp->Prop,(∃ m,W 0 m σ H) /\ ∀ i m σ H,W i m σ H ->
    ((Ite K a).stop i H /\ D.nx σ H) \/ ((Ite K a).go i H /\ ∃ N:St->Hp->Prop,(∀ σ' H',N σ' H'->∃ m',m'<m /\ W (i+1) m' σ' H') /\ ∀ x H',(Ite K a).yld i H x H'->g x σ H' fun σ2 H2=>tb { D with nx:=N,ct:=N,bk:=D.nx } σ2 H2):=by
 refine⟨fun i m σ H=>m=xs.length - i /\ i<=xs.length /\ Pv i σ H,⟨xs.length,by simp,Nat.zero_le _,h0⟩,?_⟩
 rintro i m σ H ⟨rfl,hi,p⟩
 have q:=hl i σ H hi p
 by_cases hlt:i<xs.length
 . refine .inr ⟨⟨xs,xs[i],q,by simp[hlt]⟩,Pv (i+1),fun σ' H' p'=>⟨xs.length - (i+1),by omega,rfl,hlt,p'⟩,fun x H' y=>?_⟩;obtain⟨t,z,y1,y3,e1,e2⟩:=y;subst e1 e2;exact hs i z σ _ t (y1 xs q) p y3
 . have e:i=xs.length:=by omega
   subst e;exact .inl ⟨⟨xs,q,Nat.le_refl _⟩,hd σ H p⟩
end L2
namespace L2.P
open PySem PySem.Spec PyProof.Rows L2 L2.E PySem.SeqAt
section
variable{K:PySem.W.Frag}{S H:Hp}
theorem RdV.rep{x:PV}{v:V}(h:RdV K S H x v)(s:ay S H):Rep K H x v:=by
 cases x with
 |lst xs=>obtain⟨p,vs,e,q,r⟩:=h;unfold Rep;exact⟨p,vs,e,q,r.mono s⟩
 |non=>exact Rep.mono s h
 |bl b=>exact Rep.mono s h
 |int i=>exact Rep.mono s h
 |str x=>exact Rep.mono s h
 |tup xs=>exact Rep.mono s h
end
section
variable{X:Cx}{K:PySem.W.Frag}{S H:Hp}
theorem t9{x:PV}{v:V}(h:Rep K H x v)(f:dO x=true):lH v=true:=by
 cases x with
 |lst xs=>cases f
 |tup xs=>cases f
 |non=>unfold Rep at h;subst h;rfl
 |bl b=>unfold Rep at h;subst h;rfl
 |int b=>unfold Rep at h;subst h;rfl
 |str b=>unfold Rep at h;subst h;rfl
theorem AX{x y:PV}{v u:V}(h:Rep K H x v)(k:Rep K H y u)(f:dO x=true)(g:dO y=true):eqV u v=je y x:=by
 cases x<;>first|(cases f;done)|skip
 all_goals(unfold Rep at h;subst h;cases y<;>first|(cases g;done)|(unfold Rep at k;subst k;simp[eqV,je]))
theorem ya{xs:List PV}{vs:List V}(h:bq K H xs vs)(f:xs.all dO=true):vs.all lH=true:=by
 induction xs generalizing vs with
 |nil=>rw[h.nil_inv];rfl
 | cons x xs ih=>
   obtain⟨v,r,rfl,h1,h2⟩:=h.cons_inv
   rw[List.all_cons,Bool.and_eq_true]at f ⊢
   exact⟨t9 h1 f.1,ih h2 f.2⟩
theorem zA{x:PV}{v:V}{xs:List PV}{vs:List V}(hx:Rep K H x v)(g:dO x=true)(h:bq K H xs vs)(f:xs.all dO=true):inV v vs=xs.any fun y=>je y x:=by
 induction xs generalizing vs with
 |nil=>rw[h.nil_inv];rfl
 | cons y xs ih=>
   obtain⟨u,r,rfl,h1,h2⟩:=h.cons_inv;rw[List.all_cons,Bool.and_eq_true]at f;have:=ih h2 f.2
   unfold inV at this ⊢
   rw[List.any_cons,List.any_cons,this,AX hx h1 g f.1]
theorem yQ{x:PV}{xs:List PV}(g:dO x=false)(f:xs.all dO=true):(xs.any fun y=>je y x)=false:=by
 induction xs with
 |nil=>rfl
 | cons y xs ih=>
   rw[List.all_cons,Bool.and_eq_true]at f;rw[List.any_cons,ih f.2,Bool.or_false];have f1:=f.1
   cases y<;>first|(cases f1;done)|(cases x<;>first|(cases g;done)|simp[je])
theorem Ah{α:Type}(l:List α):(l.any fun _=>false)=false:=by induction l<;>simp_all
theorem sW{A:Around}{s:Shared}{pins:List (Addr×Obj)}{σ:St}(I:Inv X pins σ H s)(hu:A.units<cLine){x:PV}{v:V}{a:Value}(hx:Rep X.K H x v)(ra:RelV v a)(g:dO x=false):
  ∀{xs:List PV} {vs:List V} {us:List Value},bq X.K H xs vs->Vals vs us->xs.all dO=true->∀ u∈us,EqAt A s u a false:=by
 intro xs
 induction xs with
 |nil=>intro vs us h r _ u hu;rw[h.nil_inv]at r;cases r;cases hu
 | cons y xs ih=>
   intro vs us h r f u hm;obtain⟨w,t,rfl,h1,h2⟩:=h.cons_inv;rw[List.all_cons,Bool.and_eq_true]at f
   cases r with
   | cons r1 r2=>
     rcases List.mem_cons.mp hm with rfl|hm
     . cases x with
       |non=>cases g
       |bl b=>cases g
       |int b=>cases g
       |str b=>cases g
       | lst zs=>
         unfold Rep at hx;obtain⟨p,us',rfl,hq,_⟩:=hx;cases ra;obtain⟨its,_,pl,_⟩:=I.list hq
         cases y with
         |non=>unfold Rep at h1;subst h1;cases r1;exact EqAt.none_list pl.isList hu
         |bl b=>unfold Rep at h1;subst h1;cases r1;exact EqAt.bool_list b pl.isList hu
         |int b=>unfold Rep at h1;subst h1;obtain⟨t',rfl⟩:=r1;exact EqAt.int_list b t' pl.isList hu
         |str b=>unfold Rep at h1;subst h1;obtain⟨t',rfl⟩:=r1;exact EqAt.str_list b t' pl.isList hu
         |lst _=>cases f.1
         |tup _=>cases f.1
       | tup zs=>
         unfold Rep at hx;obtain⟨p,us',rfl,hq,_⟩:=hx;cases ra;obtain⟨its,_,pl,_⟩:=I.tuple hq
         cases y with
         |non=>unfold Rep at h1;subst h1;cases r1;exact EqAt.none_tuple pl hu
         |bl b=>unfold Rep at h1;subst h1;cases r1;exact EqAt.bool_tuple b pl hu
         |int b=>unfold Rep at h1;subst h1;obtain⟨t',rfl⟩:=r1;exact EqAt.int_tuple b t' pl hu
         |str b=>unfold Rep at h1;subst h1;obtain⟨t',rfl⟩:=r1;exact EqAt.str_tuple b t' pl hu
         |lst _=>cases f.1
         |tup _=>cases f.1
     . exact ih h2 r2 f.2 u hm
noncomputable def Ex(K:PySem.W.Frag)(A:Around)(neg:Bool):R2:=fun v u H Q=>∃ x ys p vs,Rep K H x v /\ u=.ref p /\ (SqL K H p vs \/ SqT K H p vs) /\ bq K H ys vs /\ ys.all dO=true /\ A.units+64<cLine /\ Q (.bl (if neg then !(ys.any fun y=>je y x)else ys.any fun y=>je y x)) H
theorem kJ:OpR X (compareOp .In) (Ex X.K X.A false):=by
 intro pins s σ H v u a b Q I rx ry h;obtain⟨x,ys,p,vs,hx,rfl,hq,hr,hf,hu,q⟩:=h
 cases g:dO x with
 |true=>exact xb pins s σ H v _ a b Q I rx ry ⟨p,vs,rfl,hq,t9 hx g,ya hr hf,by rw[zA hx g hr hf];exact q⟩
 | false=>
   rw[yQ g hf]at q;cases ry
   rcases hq with hq|hq
   . obtain⟨its,r,pl,hz⟩:=I.list hq;refine SeqAt.in_listAt (fun _=>false) pl.isList (fun w hw=>sW I (by show X.A.units+1<cLine;omega) hx rx g hr r hf w (by simpa using hw)) ⟨.bl _,H,I,rfl,?_⟩;rw[show(its.toArray.any fun _=>false)=false by simp[Ah]];exact q
   . obtain⟨its,r,pl,hz⟩:=I.tuple hq;refine SeqAt.in_tupleAt (fun _=>false) pl (fun w hw=>sW I (by show X.A.units+1<cLine;omega) hx rx g hr r hf w (by simpa using hw)) ⟨.bl _,H,I,rfl,?_⟩;rw[show(its.toArray.any fun _=>false)=false by simp[Ah]];exact q
theorem Bs{A:Around}{neg:Bool}{x y:PV}{v u:V}{b:Bool}{Q:VK}(hu:A.units+64<cLine)(I:ay S H)(hx:RdV K S H x v)(hy:RdV K S H y u)(e:nM x y=some b)(k:∀ z S' H',aL S H S' H'->jn K H S' H' (.sh (.bl (if neg then !b else b))) z->Q z H'):Ex K A neg v u H Q:=by
 cases y with
 | tup ys=>
   simp only[nM]at e
   by_cases hf:ys.all dO=true
   . rw[if_pos hf]at e;cases e;obtain⟨p,vs,rfl,hq,hr⟩:=jz hy
     exact⟨x,ys,p,vs,hx.rep I,rfl,.inr (ay.tup I hq),hr.mono I,hf,hu,k _ S H (aL.refl I) lY⟩
   . rw[if_neg hf]at e;cases e
 | lst ys=>
   simp only[nM]at e
   by_cases hf:ys.all dO=true
   . rw[if_pos hf]at e;cases e;obtain⟨p,vs,rfl,hq,hr⟩:=eU hy
     exact⟨x,ys,p,vs,hx.rep I,rfl,.inl hq,hr.mono I,hf,hu,k _ S H (aL.refl I) lY⟩
   . rw[if_neg hf]at e;cases e
 |_=>simp only[nM]at e;cases e
theorem oq{A:Around}(hu:A.units+64<cLine):JR K (Ex K A false) gIn:=by
 intro S H x y v u rr Q I hx hy e k;obtain⟨b,e1,e2⟩:=Option.map_eq_some_iff.mp e;subst e2;exact Bs hu I hx hy e1 k
end
end L2.P
namespace L2.P
open PySem PySem.Spec PyProof.Rows L2 L2.E
section
variable{K:PySem.W.Frag}{cls:String->Option Addr}{W:XW}{Av G S₀ S S' H H' B B':Hp}{ρ:ag}{σ:St}{Q:VK}
noncomputable abbrev g2(K:PySem.W.Frag)(i j:Nat):TG:=Dy K 2 (vY (gH i) (vY (gH j) C6))
theorem uJ{mb:ag->OS}{D:Ends}{N:St->Hp->Prop}(hb:JS K cls W tb mb)(I:SR K cls Av G S₀ ρ σ S H)(hx:Rep K S x v)(hy:Rep K S y u)(ht:SqT K H t [v,u])
  (p:fM K cls W Av G S₀ S D (i9 i j mb (.tup [x,y] ::xs) ρ)) (hN:∀ ρ' σ' S' H',SR K cls Av G S₀ ρ' σ' S' H'->ay S S'->fM K cls W Av G S₀ S' D (i9 i j mb xs ρ')->N σ' H'):
  g2 K i j (.ref t) σ H fun σ2 H2=>tb { D with nx:=N,ct:=N,bk:=D.nx } σ2 H2:=by
 refine⟨t,_,rfl,ht,rfl,_,_,rfl,_,_,rfl,rfl,?_⟩
 refine hb Av G S₀ _ _ S H _ ((I.wj hx).wj hy) ?_;unfold i9 at p
 cases e:mb ((ρ.set i (some (.sh x))).set j (some (.sh y)))with
 |nx ρ'=>rw[e]at p;exact fun σ' S' H' I' s'=>hN ρ' σ' S' H' I' s' (p.back s')
 |ct ρ'=>rw[e]at p;exact fun σ' S' H' I' s'=>hN ρ' σ' S' H' I' s' (p.back s')
 |bk ρ'=>rw[e]at p;exact p
 |rt ρ' r=>rw[e]at p;exact p
 |exc ρ' c fs=>rw[e]at p;exact p
 |bad=>rw[e]at p;exact p
theorem u0(xs:List PV):∀(k n:Nat) (y:PV),xs[k]?=some y->oA (n+k) (xs.drop k)=.tup [.int ((n+k:Nat):Int),y] ::oA (n+(k+1)) (xs.drop (k+1)):=by
 intro k n y hy
 have hk:k<xs.length:=(List.getElem?_eq_some_iff.mp hy).1
 rw[List.drop_eq_getElem_cons hk]
 have:xs[k]=y:=(List.getElem?_eq_some_iff.mp hy).2
 rw[this];rfl
theorem AF{ml:ag->OE}{mb:ag->OS}(hl:JE K cls W tl ml)(hb:JS K cls W tb mb):JS K cls W (yq (zJ K (fJ tl j1)) (g2 K i j) tb) (wU i j ml mb):=by
 intro Av G S₀ ρ σ S H D I p;refine hl Av G S₀ ρ σ S H _ I ?_;unfold wU at p
 cases em:ml ρ with
 |exc c fs=>rw[em]at p;exact fun a C S' H' w x=>p a C σ S' H' (I.grow w) w.s x
 |bad=>rw[em]at p;exact p
 | ok r=>
   rw[em]at p;intro v S1 H1 w1 r1;simp only[OE.bU]at p
   cases ei:ux r with
   |none=>rw[ei]at p;exact p.elim
   | some xs=>
     rw[ei]at p
     have es:fq r=some (.lst xs):=by
      cases r with
      |sh y=>cases y<;>cases ei<;>rfl
      |fr ys=>cases ei;rfl
      |al ys=>cases ei
     obtain⟨S2,w2,s2,rx⟩:=r1.share w1 es;have I2:=I.grow w2;unfold Rep at rx;obtain⟨a,vs,rfl,hq,hr⟩:=rx
     show ∃ a',[V.ref a]=[V.ref a'] /\ _
     refine⟨a,rfl,⟨vs,ay.seq I2.sh hq⟩,?_⟩
     refine yg (xs:=vs) (fun k σ' H'=>∃ ρ' S',SR K cls Av G S₀ ρ' σ' S' H' /\ ay S2 S' /\ fM K cls W Av G S₀ S' D (i9 i j mb (oA (0+k) (xs.drop k)) ρ'))
      ⟨ρ,S2,I2,ay.refl _,p.back w2.s⟩ ?_ ?_ ?_
     . rintro k σ' H' _ ⟨ρ',S',I',s',_⟩
       exact ay.seq (s'.trans I'.sh) hq
     . rintro k x σ' H' t hx ⟨ρ',S',I',s',p'⟩ ht
       obtain⟨y,hy,ry⟩:=hr.FX hx;rw[u0 xs k 0 y hy]at p'
       have w3:aL S' H' S' (upd H' t (.tup [.int k,x])):=aL.heap I'.sh ht
       refine uJ hb (I'.grow w3) (x:=.int ((0+k:Nat):Int)) (v:=.int k) (by unfold Rep;rw[Nat.zero_add]) (Rep.mono s' ry) (SqT.new aY) p' fun ρ2 σ2 S3 H3 I3 s3 p3=>⟨ρ2,S3,I3,s'.trans s3,p3⟩
     . rintro σ' H' ⟨ρ',S',I',s',p'⟩
       rw[List.drop_of_length_le (by rw[hr.length];exact Nat.le_refl _)]at p';exact p' σ' S' H' I' (ay.refl _)
end
end L2.P
namespace L2.E
open PySem PySem.Spec PyProof.Rows L2
theorem Bl{X:Cx}(hg:Gl X "enumerate")(hm:X.mg "enumerate" = none)(ha:QA X [a] ta)(hs:starEach [a] X.env=[(false,eval a X.env)]:=by rfl):
  QI X (.Tuple elts k tp) (.Call (.Name "enumerate" p) [a] [] pos) (zJ X.K ta):=⟨Bm hg hm ha.out hs⟩
structure QGs(X:Cx)(es:List Expr)(t:TGs):Prop where
 out:PGs X es t
theorem Bo:QGs X [] C6:=⟨Bp⟩
theorem tu{X:Cx}(h1:QG X e t)(h2:QGs X es u)
  (hs:(assignEach (e ::es) X.env).map (·.2)=assign e X.env ::(assignEach es X.env).map (·.2):=by rfl):QGs X (e ::es) (vY t u):=⟨zg h1.out h2.out hs⟩
theorem EN{X:Cx}(hc:X.calm=true)(h:QGs X es t)
  (hn:(assignEach es X.env).length=n:=by rfl) (hst:(assignEach es X.env).findIdx? (·.1)=none:=by rfl):QG X (.Tuple es k pos) (Dy X.K n t):=⟨DU hc h.out hn hst⟩
end L2.E
namespace L2.P
open PySem PySem.Spec PyProof.Rows L2 L2.E
section
variable{K:PySem.W.Frag}{cls:String->Option Addr}{W:XW}{Av G S₀ S S' H H' B B':Hp}{ρ:ag}{σ:St}{Q:VK}{F:Nat->List Addr}
theorem aU.length{ts:List OV}{vs:List V}(h:aU K cls S H ts vs f):vs.length=ts.length:=by
 induction ts generalizing vs f with
 |nil=>unfold aU at h;rw[h.1];rfl
 | cons t ts ih=>
   unfold aU at h;obtain⟨v,r,f1,f2,rfl,_,_,h2⟩:=h;simp[ih h2]
theorem aU.cons_inv(h:aU K cls S H (t ::ts) vs fp):∃ v r f1 f2,vs=v ::r /\ fp=f1++f2 /\ aX K cls S H t v f1 /\ aU K cls S H ts r f2:=by unfold aU at h;exact h
theorem aU.cons(h:aX K cls S H t v f1)(r:aU K cls S H ts vs f2):aU K cls S H (t ::ts) (v ::vs) (f1++f2):=by unfold aU;exact⟨v,vs,f1,f2,rfl,rfl,h,r⟩
theorem aU.nil:aU K cls S H [] [] []:=by unfold aU;exact⟨rfl,rfl⟩
theorem aU.append(h:aU K cls S H ts vs f)(k:aU K cls S H us ws g):aU K cls S H (ts++us) (vs++ws) (f++g):=by
 induction ts generalizing vs f with
 |nil=>unfold aU at h;rw[h.1,h.2];exact k
 | cons t ts ih=>
   obtain⟨v,r,f1,f2,rfl,rfl,h1,h2⟩:=h.cons_inv;have:=aU.cons h1 (ih h2);rw[List.append_assoc];exact this
theorem aU.shs{xs:List PV}(h:bq K S xs vs):aU K cls S H (xs.map .sh) vs []:=by
 induction xs generalizing vs with
 |nil=>rw[h.nil_inv];exact .nil
 | cons x xs ih=>
   obtain⟨v,r,rfl,h1,h2⟩:=h.cons_inv;exact aU.cons (f1:=[]) (by unfold aX;exact⟨rfl,h1⟩) (ih h2)
theorem aU.flat(e:pC ts=some xs)(h:aU K cls S H ts vs f):bq K S xs vs /\ f=[]:=by
 induction ts generalizing xs vs f with
 |nil=>cases e;unfold aU at h;rw[h.1,h.2];exact⟨.nil,rfl⟩
 | cons t ts ih=>
   cases t with
   | sh x=>
     obtain⟨ys,e1,e2⟩:=Option.map_eq_some_iff.mp e;subst e2;obtain⟨v,r,f1,f2,rfl,rfl,h1,h2⟩:=h.cons_inv;unfold aX at h1;obtain⟨h3,h4⟩:=ih e1 h2
     exact⟨.cons h1.2 h3,by rw[h1.1,h4];rfl⟩
   |ol _=>cases e
   |ob _ _ _=>cases e
   |di _=>cases e
   |dt _=>cases e
theorem aU.at{ts:List OV}{vs:List V}{f:List Addr}(h:aU K cls S H ts vs f)(e:ts[k]?=some u):
  ∃ w f1 rest,vs[k]?=some w /\ aX K cls S H u w f1 /\ f.Perm (f1++rest) /\
    ∀ S' H' u' w' f',ay S S'->aX K cls S' H' u' w' f'->(∀ a∈rest,∀ o,H a=some o->H' a=some o)->∃ g,aU K cls S' H' (ts.set k u') (vs.set k w') g /\ g.Perm (f'++rest):=by
 induction ts generalizing vs f k with
 |nil=>simp at e
 | cons t ts ih=>
   obtain⟨v,r,f1,f2,rfl,rfl,h1,h2⟩:=h.cons_inv
   cases k with
   | zero=>
     simp at e;subst e
     refine⟨v,f1,f2,rfl,h1,List.Perm.refl _,fun S' H' u' w' f' s r' g=>?_⟩
     exact⟨f'++f2,aU.cons r' (h2.mono s g),List.Perm.refl _⟩
   | succ k=>
     simp at e;obtain⟨w,g1,rest,e1,r1,p1,c1⟩:=ih h2 e
     refine⟨w,g1,f1++rest,by simpa using e1,r1,?_,fun S' H' u' w' f' s r' g=>?_⟩
     . have:(f1++f2).Perm (f1++(g1++rest)):=List.Perm.append_left f1 p1
       refine this.trans ?_;rw[<- List.append_assoc,<- List.append_assoc];exact List.Perm.append_right rest List.perm_append_comm
     . obtain⟨g2,r2,p2⟩:=c1 S' H' u' w' f' s r' fun a ha=>g a (List.mem_append_right _ ha)
       refine⟨f1++g2,aU.cons (h1.mono s fun a ha=>g a (List.mem_append_left _ ha)) r2,?_⟩
       refine(List.Perm.append_left f1 p2).trans ?_
       rw[<- List.append_assoc,<- List.append_assoc];exact List.Perm.append_right rest List.perm_append_comm
theorem Bu{ts:List OV}(h:q8 ks ts f=some u):∃ k,ts[k]?=some u /\ ks[k]?=some f /\ (∀ u',zV ks ts f u'=ts.set k u') /\ ∀{α:Type} (us:List (Str×α)),us.map (·.1)=ks->us.lookup f=(us.map (·.2))[k]?:=by
 induction ks generalizing ts with
 |nil=>simp[q8]at h
 | cons g ks ih=>
   cases ts with
   |nil=>simp[q8]at h
   | cons t ts=>
     unfold q8 at h;split at h
     . rename_i e;subst e;cases h
       refine⟨0,rfl,rfl,fun u'=>by simp[zV],fun us eu=>?_⟩
       cases us with
       |nil=>cases eu
       | cons q us=>
         simp at eu;obtain⟨a,b⟩:=q;simp at eu;rw[<- eu.1];simp[List.lookup]
     . rename_i ne;obtain⟨k,e1,e2,e3,e4⟩:=ih h
       refine⟨k+1,by simpa using e1,by simpa using e2,fun u'=>by simp[zV,ne,e3],fun us eu=>?_⟩
       cases us with
       |nil=>cases eu
       | cons q us=>
         obtain⟨a,b⟩:=q;simp at eu
         have:(f==a)=false:=by rw[eu.1];simpa using Ne.symm ne
         simp[List.lookup,this,e4 us eu.2]
noncomputable def rb(H:Hp):Stp->V->V->Prop
 |.ix k,v,w=>∃ p vs,v=.ref p /\ H p=some (.lst vs) /\ vs[k]?=some w
 |.fd f,v,w=>∃ p C dx us,v=.ref p /\ H p=some (.ins C dx us) /\ us.lookup f=some w
noncomputable def fW(H:Hp):V->List Stp->V->Prop
 |v,[],w=>w=v
 |v,s ::π,w=>∃ u,rb H s v u /\ fW H u π w
theorem rb.inj(h:rb H s v w)(k:rb H s v w'):w=w':=by
 cases s with
 | ix n=>
   obtain⟨p,vs,rfl,e1,e2⟩:=h;obtain⟨p',vs',e3,e4,e5⟩:=k;cases e3;rw[e1]at e4;cases e4;rw[e2]at e5;cases e5;rfl
 | fd f=>
   obtain⟨p,C,dx,us,rfl,e1,e2⟩:=h;obtain⟨p',C',dx',us',e3,e4,e5⟩:=k;cases e3;rw[e1]at e4;cases e4;rw[e2]at e5;cases e5;rfl
theorem fW.inj:∀{v w w':V},fW H v π w->fW H v π w'->w=w':=by
 induction π with
 |nil=>intro v w w' h k;rw[h,k]
 | cons s π ih=>
   rintro v w w' ⟨u,h1,h2⟩ ⟨u',k1,k2⟩
   have:=h1.inj k1;subst this;exact ih h2 k2
theorem fW.snoc:∀{v w u:V},fW H v π w->rb H s w u->fW H v (π++[s]) u:=by
 induction π with
 |nil=>intro v w u h k;rw[h]at k;exact⟨u,k,rfl⟩
 | cons t π ih=>
   rintro v w u ⟨x,h1,h2⟩ k
   exact⟨x,h1,ih h2 k⟩
theorem fW.mono(g:ay H H'):∀{v w:V},fW H v π w->fW H' v π w:=by
 induction π with
 |nil=>intro v w h;exact h
 | cons t π ih=>
   rintro v w ⟨x,h1,h2⟩
   refine⟨x,?_,ih h2⟩
   cases t with
   |ix k=>obtain⟨p,vs,e,e1,e2⟩:=h1;exact⟨p,vs,e,g _ _ e1,e2⟩
   |fd f=>obtain⟨p,C,dx,us,e,e1,e2⟩:=h1;exact⟨p,C,dx,us,e,g _ _ e1,e2⟩
theorem aX.step{t u:OV}{fp:List Addr}(h:aX K cls S H t v fp)(e:t.at1 s=some u):
  ∃ w f1 rest,rb H s v w /\ aX K cls S H u w f1 /\ fp.Perm (f1++rest) /\
    ∀ S' H' u' f',ay S S'->aX K cls S' H' u' w f'->(∀ a∈rest,∀ o,H a=some o->H' a=some o)->∃ g,aX K cls S' H' (t.gY s u') v g /\ g.Perm (f'++rest):=by
 cases t with
 |sh x=>cases s<;>cases e
 |di x=>cases s<;>cases e
 |dt x=>cases s<;>cases e
 | ol ts=>
   cases s with
   |fd f=>cases e
   | ix k=>
     unfold aX at h;obtain⟨p,vs,f,rfl,hp,rfl,r⟩:=h;obtain⟨w,f1,rest,e1,r1,p1,c1⟩:=r.at e
     refine⟨w,f1,p ::rest,⟨p,vs,rfl,hp,e1⟩,r1,?_,fun S' H' u' f' s r' g=>?_⟩
     . exact(List.Perm.cons p p1).trans (List.perm_middle.symm)
     . obtain⟨g2,r2,p2⟩:=c1 S' H' u' w f' s r' fun a ha=>g a (by simp[ha])
       refine⟨p ::g2,?_,(List.Perm.cons p p2).trans List.perm_middle.symm⟩
       rw[il e1]at r2;unfold OV.gY aX
       exact⟨p,vs,g2,rfl,g p (by simp) _ hp,rfl,r2⟩
 | ob c ks ts=>
   cases s with
   |ix k=>cases e
   | fd f=>
     unfold aX at h;obtain⟨p,C,dx,us,ff,rfl,hc,hp,hd,hk,rfl,r⟩:=h;obtain⟨k,e1,e2,e3,e4⟩:=Bu e;obtain⟨w,f1,rest,q1,r1,p1,c1⟩:=r.at e1
     refine⟨w,f1,p ::dx ::rest,⟨p,C,dx,us,rfl,hp,by rw[e4 us hk];exact q1⟩,r1,?_,fun S' H' u' f' s r' g=>?_⟩
     . exact((List.Perm.cons p ((List.Perm.cons dx p1).trans List.perm_middle.symm))).trans List.perm_middle.symm
     . obtain⟨g2,r2,p2⟩:=c1 S' H' u' w f' s r' fun a ha=>g a (by simp[ha])
       refine⟨p ::dx ::g2,?_,(List.Perm.cons p ((List.Perm.cons dx p2).trans List.perm_middle.symm)).trans List.perm_middle.symm⟩
       rw[il q1]at r2;unfold OV.gY aX
       exact⟨p,C,dx,us,g2,rfl,hc,g p (by simp) _ hp,g dx (by simp) _ hd,hk,rfl,by rw[e3];exact r2⟩
theorem aX.focus:∀{t u:OV} {v:V} {fp:List Addr},aX K cls S H t v fp->t.get π=some u ->
  ∃ w f1 rest,fW H v π w /\ aX K cls S H u w f1 /\ fp.Perm (f1++rest) /\
    ∀ S' H' u' f',ay S S'->aX K cls S' H' u' w f'->(∀ a∈rest,∀ o,H a=some o->H' a=some o)->∃ g,aX K cls S' H' (t.put π u') v g /\ g.Perm (f'++rest):=by
 induction π with
 | nil=>
   intro t u v fp h e;cases e
   exact⟨v,fp,[],rfl,h,by simp,fun S' H' u' f' _ r' _=>⟨f',by unfold OV.put;exact r',by simp⟩⟩
 | cons s π ih=>
   intro t u v fp h e;unfold OV.get at e;obtain⟨t1,e1,e2⟩:=Option.bind_eq_some_iff.mp e;obtain⟨w1,f1,rest1,st,r1,p1,c1⟩:=h.step e1;obtain⟨w,f2,rest2,wk,r2,p2,c2⟩:=ih r1 e2
   refine⟨w,f2,rest2++rest1,⟨w1,st,wk⟩,r2,?_,fun S' H' u' f' s' r' g=>?_⟩
   . rw[<- List.append_assoc];exact p1.trans (List.Perm.append_right rest1 p2)
   . obtain⟨g1,q1,k1⟩:=c2 S' H' u' f' s' r' fun a ha=>g a (List.mem_append_left _ ha)
     obtain⟨g2,q2,k2⟩:=c1 S' H' _ g1 s' q1 fun a ha=>g a (List.mem_append_right _ ha)
     refine⟨g2,?_,?_⟩
     . unfold OV.put;rw[e1];exact q2
     . rw[<- List.append_assoc];exact k2.trans (List.Perm.append_right rest1 k1)
theorem SR.tree(I:SR K cls Av G S₀ ρ σ S H)(e:eS i ρ=some t):∃ v fp,σ[i]?=some (some v) /\ aX K cls S H t v fp:=by
 obtain⟨F,J⟩:=I;unfold eS at e
 cases q:ρ[i]? with
 |none=>rw[q]at e;cases e
 | some o=>
   cases o with
   |none=>rw[q]at e;cases e
   | some s=>
     rw[q]at e;obtain⟨v,e1,r⟩:=J.own i s q
     cases s with
     |tr io t'=>cases e;exact⟨v,_,e1,r.1⟩
     | bo t'=>
       cases e;obtain⟨_,f,r⟩:=r
       exact⟨v,f,e1,r.mono (ay.refl _) fun _ _ _ h=>J.gh _ _ h⟩
     |sh x=>cases e
     |ow xs=>cases e
     |ex c fs=>cases e
noncomputable def JP(K:PySem.W.Frag)(cls:String->Option Addr)(te:TE)(i:Nat)(mp:MP):Prop:=∀ Av G S₀ ρ σ S H Q v0 t π,SR K cls Av G S₀ ρ σ S H->eS i ρ=some t->σ[i]?=some (some v0)->mp ρ=some π->(t.get π).isSome=true ->
 (∀ w S' H',aL S H S' H'->fW H' v0 π w->Q w H')->te σ H Q
theorem aH:JP K cls (uR i) i aB:=by
 intro Av G S₀ ρ σ S H Q v0 t π I e ev ep _ k;cases ep
 exact⟨v0,ev,k v0 S H (aL.refl I.sh) rfl⟩
theorem FJ{mk:ag->OE}(hp:JP K cls te i mp)(hk:JE K cls W tk mk):JP K cls (tOp (Bt K) te tk) i (pIx i mp mk):=by
 intro Av G S₀ ρ σ S H Q v0 t π I e ev ep hs k;unfold pIx at ep;rw[e]at ep
 dsimp only at ep
 split at ep
 . rename_i π0 e0;split at ep
   . rename_i ts e1;split at ep
     . rename_i r er;split at ep
       . rename_i n en;obtain⟨j,ej,e2⟩:=Option.map_eq_some_iff.mp ep;subst e2
         refine hp Av G S₀ ρ σ S H _ v0 t π0 I e ev e0 (by rw[e1];rfl) fun w S1 H1 w1 wk=>?_
         refine hk Av G S₀ ρ σ S1 H1 _ (I.grow w1) ?_;rw[er];intro u S2 H2 w2 ru;have I2:=(I.grow w1).grow w2
         have hu:u=.int n:=by have:=ru.rd I2.sh;rw[en]at this;exact cn this
         subst hu;obtain⟨v,fp,ev',ro⟩:=I2.tree e;rw[ev]at ev';cases ev';obtain⟨w',f1,rest,wk',r',_,_⟩:=ro.focus e1;have:=(wk.mono w2.g).inj wk';subst this;unfold aX at r';obtain⟨p,vs,f,rfl,hl,rfl,rs⟩:=r'
         have hj:j<ts.length:=by
          have h1:L2.atI ts n=ts[j]?:=by unfold L2.atI;show(ixP ts.length n).bind _=_;rw[ej];rfl
          unfold ixP at ej;split at ej
          . split at ej
            . cases ej;omega
            . cases ej
          . split at ej
            . cases ej;omega
            . cases ej
         have hjv:j<vs.length:=by rw[rs.length];exact hj
         have hx:vs[j]?=some vs[j]:=by simp[hjv]
         refine⟨p,vs,n,vs[j],rfl,rfl,SqL.new hl,?_,k _ S2 H2 (w1.trans w2) (wk'.snoc ⟨p,vs,rfl,hl,hx⟩)⟩
         unfold L2.atI
         show(ixP vs.length n).bind _=_
         rw[rs.length,ej];exact hx
       . cases ep
     . cases ep
   . cases ep
 . cases ep
theorem JP.sub(hp:JP K cls te i mp)(I:SR K cls Av G S₀ ρ σ S H)(e:subAt i mp ρ=some u)
  (k:∀ w S' H' f,aL S H S' H'->SR K cls Av G S₀ ρ σ S' H'->aX K cls S' H' u w f->Q w H'):te σ H Q:=by
 unfold subAt at e;split at e
 . rename_i t et;split at e
   . rename_i π eπ;obtain⟨v0,fp0,ev,_⟩:=I.tree et
     refine hp Av G S₀ ρ σ S H _ v0 t π I et ev eπ (by rw[e];rfl) fun w S1 H1 w1 wk=>?_
     obtain⟨v,fp,ev',ro⟩:=(I.grow w1).tree et;rw[ev]at ev';cases ev';obtain⟨w',f1,rest,wk',r',_,_⟩:=ro.focus e;have:=wk.inj wk';subst this;exact k w S1 H1 f1 w1 (I.grow w1) r'
   . cases e
 . cases e
theorem fo(hp:JP K cls te i mp):JE K cls W te (cj i mp):=by
 intro Av G S₀ ρ σ S H Q I p;unfold cj at p;split at p
 . rename_i x e
   refine hp.sub I e fun w S1 H1 f w1 _ r=>?_
   unfold aX at r;exact p w S1 H1 w1 r.2
 . rename_i ts e;split at p
   . rename_i xs ex
     refine hp.sub I e fun w S1 H1 f w1 _ r=>?_
     unfold aX at r;obtain⟨q,vs,ff,rfl,hq,_,rs⟩:=r;exact p _ S1 H1 w1 ⟨q,vs,rfl,SqL.new hq,(rs.flat ex).1⟩
   . exact p.elim
 . exact p.elim
theorem fI(hp:JP K cls te i mp):JT K cls W (fun σ H Q=>te σ H fun x H'=>∃ k,xN K x H' k /\ Q k H') (cp i mp):=by
 intro Av G S₀ ρ σ S H Q I p;unfold cp at p;split at p
 . rename_i ts e
   refine hp.sub I e fun w S1 H1 f w1 _ r=>?_
   unfold aX at r;obtain⟨q,vs,ff,rfl,hq,_,rs⟩:=r
   refine⟨_,.inl ⟨vs,SqL.new hq,rfl⟩,?_⟩
   have:vs.isEmpty=ts.isEmpty:=by
    have:=rs.length
    cases vs<;>cases ts<;>simp_all
   rw[this];exact p S1 H1 w1
 . exact p.elim
theorem gr(hp:JP K cls te i mp):JE K cls W (tCB (fun xs H Q=>∃ p ys,xs=[.ref p] /\ (SqL K H p ys \/ SqT K H p ys) /\ Q (.int ys.length) H) (fJ te j1)) (dy i mp):=by
 intro Av G S₀ ρ σ S H Q I p;unfold dy at p;split at p
 . rename_i ts e
   refine hp.sub I e fun w S1 H1 f w1 _ r=>?_
   unfold aX at r;obtain⟨q,vs,ff,rfl,hq,_,rs⟩:=r
   exact⟨q,vs,rfl,.inl (SqL.new hq),p _ S1 H1 w1 (by show Rep K S1 _ _;unfold Rep;rw[rs.length])⟩
 . exact p.elim
end
section
variable{K:PySem.W.Frag}{cls:String->Option Addr}{W:XW}{Av G S₀ S S' H H' B B':Hp}{ρ:ag}{σ:St}{Q:VK}{F:Nat->List Addr}
theorem SRF.part{t u:OV}(J:SRF K cls Av G S₀ ρ σ S H F)(hi:ρ[i]?=some (some (.tr io t)))(hv:σ[i]?=some (some v0))(e:t.get π=some u):
  ∃ w f1 rest,fW H v0 π w /\ aX K cls S H u w f1 /\ (F i).Perm (f1++rest) /\ (f1++rest).Nodup /\ (∀ a∈f1,G a=none /\ S a=none) /\
    ∀ S' H' u' f',ay S S'->ay S' H'->ay G H'->(∀ b,S' b≠none->S₀ b≠none \/ G b=none)->aX K cls S' H' u' w f'->f'.Nodup->(∀ a∈f',a∈f1 \/ H a=none)->(∀ a∈f',S' a=none) ->
      (∀ a o,a∉f1->H a=some o->H' a=some o)->(∀ a,S' a≠none->S a≠none \/ H a=none \/ a∈f1) ->
      ∃ g,SRF K cls Av G S₀ (ρ.set i (some (.tr io (t.put π u')))) σ S' H' (jA F i g) /\ g.Perm (f'++rest):=by
 obtain⟨v,ev,ro,nd,gs,hio⟩:=J.own i _ hi;rw[hv]at ev;cases ev;obtain⟨w,f1,rest,wk,r1,p1,c1⟩:=ro.focus e
 have nd1:(f1++rest).Nodup:=p1.nodup_iff.mp nd
 have in1:∀ a,a∈f1->a∈F i:=fun a ha=>p1.mem_iff.mpr (List.mem_append_left _ ha)
 have inr:∀ a,a∈rest->a∈F i:=fun a ha=>p1.mem_iff.mpr (List.mem_append_right _ ha)
 have off1:∀ a,a∈rest->a∉f1:=fun a ha hb=>(List.nodup_append.mp nd1).2.2 a hb a ha rfl
 refine⟨w,f1,rest,wk,r1,p1,nd1,fun a ha=>gs a (in1 a ha),fun S' H' u' f' s sh gh new r' nd' fr nS keep nw=>?_⟩
 obtain⟨g,rg,pg⟩:=c1 S' H' u' f' s r' fun a ha o h=>keep a o (off1 a ha) h
 have noS:∀ j a,a∈F j->a∉f1->S' a=none:=fun j a ha hb=>by
  cases q:S' a with
  |none=>rfl
  | some o=>
    obtain⟨⟨o',h1,_⟩,_,h3⟩:=J.live j a ha
    rcases nw a (by rw[q];simp)with z|z|z
    . exact absurd h3 z
    . rw[h1]at z;cases z
    . exact absurd z hb
 have J1:SRF K cls Av G S₀ (ρ.set i none) (σ.set i none) S H (jA F i []):=J.put (fun t e=>nomatch e) (fun a ha=>nomatch ha) fun j a _ ha=>nomatch ha
 have off:∀ j a,a∈jA F i [] j->a∉f1 /\ j≠i:=fun j a ha=>by
  by_cases ej:j=i
  . subst ej;rw[fQ]at ha;cases ha
  . rw[cX ej]at ha
    exact⟨fun hb=>ej (J.apart j i a ha (in1 a hb)),ej⟩
 have J2:=J1.change (S':=S') (H':=H') gh s sh new (fun j a ha o h=>keep a o (off j a ha).1 h)
  (fun b o hx h=>keep b o (fun hb=>by
    obtain⟨⟨o',h1,h2⟩,_⟩:=J.live i b (in1 b hb)
    rw[h]at h1;cases h1;rw[hx]at h2;cases h2) h)
  fun j a ha=>by
   have hj:=off j a ha;rw[cX hj.2]at ha;exact noS j a ha hj.1
 have mem:∀ a,a∈g->a∈f' \/ a∈rest:=fun a ha=>List.mem_append.mp (pg.mem_iff.mp ha)
 have hlive:∀ a∈g,(∃ o,H' a=some o /\ isX o=false) /\ G a=none /\ S' a=none:=fun a ha=>by
  refine⟨rg.live a ha,?_,?_⟩
  . rcases mem a ha with z|z
    . rcases fr a z with y|y
      . exact(gs a (in1 a y)).1
      . exact J.gh.free y
    . exact(gs a (inr a z)).1
  . rcases mem a ha with z|z
    . exact nS a z
    . exact noS i a (inr a z) (off1 a z)
 have ndg:g.Nodup:=pg.nodup_iff.mpr (List.nodup_append.mpr ⟨nd',(List.nodup_append.mp nd1).2.1,fun a ha b hb z=>by
  subst z
  rcases fr a ha with y|y
  . exact off1 a hb y
  . obtain⟨⟨o',h1,_⟩,_⟩:=J.live i a (inr a hb)
    rw[y]at h1;cases h1⟩)
 have J3:=J2.put (i:=i) (s:=some (.tr io (t.put π u'))) (u:=some v0) (fp:=g) (fun t' e=>by
  cases e
  exact⟨v0,rfl,rg,ndg,fun a ha=>⟨(hlive a ha).2.1,(hlive a ha).2.2⟩,hio⟩) hlive fun j a hj ha hz=>by
   rw[cX hj]at hz
   rcases mem a ha with z|z
   . rcases fr a z with y|y
     . exact hj (J.apart j i a hz (in1 a y))
     . obtain⟨⟨o',h1,_⟩,_⟩:=J.live j a hz;rw[y]at h1;cases h1
   . exact hj (J.apart j i a hz (inr a z))
 rw[List.set_set,List.set_set,il hv]at J3
 have eF:jA (jA F i []) i g=jA F i g:=by
  funext j
  by_cases ej:j=i
  . subst ej;rw[fQ,fQ]
  . rw[cX ej,cX ej,cX ej]
 rw[eF]at J3
 exact⟨g,J3,pg⟩
theorem SRF.more(I:SRF K cls Av G S₀ ρ σ S H F)(h:∀ t,s=some t->∃ v,u=some v /\ oK K cls Av G S H ρ.length t v fp)
  (hl:∀ a∈fp,(∃ o,H a=some o /\ isX o=false) /\ G a=none /\ S a=none) (ap:∀ j a,j<ρ.length->a∈fp->a∉F j):∃ F',SRF K cls Av G S₀ (ρ++[s]) (σ++[u]) S H F':=by
 refine⟨fun j=>if j<ρ.length then F j else if j=ρ.length then fp else[],I.gh,I.s0,I.sh,I.new,fun j t e=>?_,fun j k a h1 h2=>?_,fun j a ha=>?_,by simp[I.len]⟩
 . by_cases hj:j<ρ.length
   . rw[List.getElem?_append_left hj]at e;rw[List.getElem?_append_left (by rw[<- I.len];exact hj)];simp only[hj,if_true];exact I.own j t e
   . rw[List.getElem?_append_right (Nat.le_of_not_lt hj)]at e
     have h0:j - ρ.length=0:=by
      by_cases h:j - ρ.length=0
      . exact h
      . rw[List.getElem?_eq_none (by simp;omega)]at e;cases e
     rw[h0]at e
     have ej:j=ρ.length:=by omega
     obtain⟨v,e2,r⟩:=h t (Option.some.inj e)
     refine⟨v,?_,?_⟩
     . rw[List.getElem?_append_right (by rw[<- I.len];omega),<- I.len,h0,e2];rfl
     . subst ej;simp only[Nat.lt_irrefl,if_false,if_true];exact r
 . by_cases hj:j<ρ.length
   . simp only[hj,if_true]at h1
     by_cases hk:k<ρ.length
     . simp only[hk,if_true]at h2;exact I.apart j k a h1 h2
     . simp only[hk,if_false]at h2;split at h2
       . exact absurd h1 (ap j a hj h2)
       . cases h2
   . simp only[hj,if_false]at h1;split at h1
     . rename_i ej
       by_cases hk:k<ρ.length
       . simp only[hk,if_true]at h2;exact absurd h2 (ap k a hk h1)
       . simp only[hk,if_false]at h2;split at h2
         . rename_i ek;rw[ej,ek]
         . cases h2
     . cases h1
 . by_cases hj:j<ρ.length
   . simp only[hj,if_true]at ha;exact I.live j a ha
   . simp only[hj,if_false]at ha;split at ha
     . exact hl a ha
     . cases ha
theorem SR.fold(I:SR K cls Av G S₀ (ρ++[some s]) (σ++[some v]) S H)(hs:nio s=true):SR K cls Av G S₀ (ρ.set i (some s)) (σ.set i (some v)) S H:=by
 obtain⟨F,J⟩:=I
 have hlen:ρ.length=σ.length:=by have:=J.len;simpa using this
 obtain⟨v',ev,r⟩:=J.own ρ.length s (by simp)
 have ev':v'=v:=by
  rw[List.getElem?_append_right (by rw[hlen];exact Nat.le_refl _),hlen,Nat.sub_self]at ev
  cases ev;rfl
 subst ev'
 have J1:SRF K cls Av G S₀ ρ σ S H (fun j=>if j<ρ.length then F j else[]):=by
  refine⟨J.gh,J.s0,J.sh,J.new,fun j t e=>?_,fun j k a h1 h2=>?_,fun j a ha=>?_,hlen⟩
  . have hj:j<ρ.length:=(List.getElem?_eq_some_iff.mp e).1
    obtain⟨v2,e2,r2⟩:=J.own j t (by rw[List.getElem?_append_left hj];exact e);rw[List.getElem?_append_left (by rw[<- hlen];exact hj)]at e2;simp only[hj,if_true]
    exact⟨v2,e2,r2⟩
  . split at h1
    . split at h2
      . exact J.apart j k a h1 h2
      . cases h2
    . cases h1
  . split at ha
    . exact J.live j a ha
    . cases ha
 refine⟨_,J1.put (i:=i) (s:=some s) (u:=some v') (fp:=F ρ.length) (fun t e=>?_) (fun a ha=>J.live _ a ha) fun j a hj ha hz=>?_⟩
 . cases e
   refine⟨v',rfl,?_⟩
   cases s with
   |sh x=>exact r
   |ow xs=>exact r
   |ex c fs=>exact r
   | tr io t=>
     cases io with
     |true=>cases hs
     |false=>exact⟨r.1,r.2.1,r.2.2.1,fun z=>nomatch z⟩
   |bo t=>cases hs
 . split at hz
   . rename_i hj';have:=J.apart j ρ.length a hz ha;omega
   . cases hz
noncomputable def yX(K:PySem.W.Frag)(cls:String->Option Addr)(B S H:Hp)(t:OV)(v:V):Prop:=∃ fp,aX K cls S H t v fp /\ fp.Nodup /\ ∀ a∈fp,B a=none /\ S a=none
noncomputable def F9(K:PySem.W.Frag)(cls:String->Option Addr)(B S H:Hp)(ts:List OV)(vs:List V):Prop:=∃ fp,aU K cls S H ts vs fp /\ fp.Nodup /\ ∀ a∈fp,B a=none /\ S a=none
noncomputable def Fz(K:PySem.W.Frag)(cls:String->Option Addr)(W:XW)(σ:St)(S H:Hp)(Q:VK):OD->Prop
 |.ok t=>∀ v S' H',aL S H S' H'->yX K cls H S' H' t v->Q v H'
 |.exc c fs=>∀ a C S' H',aL S H S' H'->kh K cls S' H' c fs a C->W (.ref C) (some a) σ H'
 |.bad=>False
noncomputable def EO(K:PySem.W.Frag)(cls:String->Option Addr)(W:XW)(σ:St)(S H:Hp)(Q:List V->Hp->Prop):ODs->Prop
 |.ok ts=>∀ vs S' H',aL S H S' H'->F9 K cls H S' H' ts vs->Q vs H'
 |.exc c fs=>∀ a C S' H',aL S H S' H'->kh K cls S' H' c fs a C->W (.ref C) (some a) σ H'
 |.bad=>False
noncomputable def JD(K:PySem.W.Frag)(cls:String->Option Addr)(W:XW)(te:TE)(m:ag->OD):Prop:=∀ Av G S₀ ρ σ S H Q,SR K cls Av G S₀ ρ σ S H->Fz K cls W σ S H Q (m ρ)->te σ H Q
noncomputable def JDs(K:PySem.W.Frag)(cls:String->Option Addr)(W:XW)(te:TA)(m:ag->ODs):Prop:=∀ Av G S₀ ρ σ S H Q,SR K cls Av G S₀ ρ σ S H->EO K cls W σ S H Q (m ρ)->te σ H Q
theorem yX.grow(h:yX K cls B S H t v)(w:aL S H S1 H1):yX K cls B S1 H1 t v:=by
 obtain⟨fp,r,nd,g⟩:=h
 refine⟨fp,r.mono w.s fun a _ o z=>w.g _ _ z,nd,fun a ha=>⟨(g a ha).1,?_⟩⟩
 obtain⟨o,h1,_⟩:=r.live a ha
 cases q:S1 a with
 |none=>rfl
 | some o'=>
   rcases w.new a (by rw[q];simp)with z|z
   . exact absurd (g a ha).2 z
   . rw[h1]at z;cases z
theorem jb{me:ag->OE}(h:JE K cls W te me):JD K cls W te (mD me):=by
 intro Av G S₀ ρ σ S H Q I p;refine h Av G S₀ ρ σ S H Q I ?_;unfold mD at p
 cases e:me ρ with
 |exc c fs=>rw[e]at p;exact p
 |bad=>rw[e]at p;exact p
 | ok r=>
   rw[e]at p
   cases r with
   |sh x=>exact fun v S' H' w r=>p v S' H' w ⟨[],by unfold aX;exact⟨rfl,r⟩,List.nodup_nil,fun a ha=>nomatch ha⟩
   |al xs=>exact p.elim
   | fr xs=>
     intro v S' H' w r;obtain⟨q,vs,rfl,hB,hS,hH,hr⟩:=r;refine p _ S' H' w ⟨[q],by unfold aX;exact⟨q,vs,[],rfl,hH,rfl,.shs hr⟩,by simp,fun a ha=>?_⟩
     have z:a=q:=by simpa using ha
     subst z;exact⟨hB,hS⟩
theorem BJ:JDs K cls W j1 mDn:=fun Av G S₀ ρ σ S H Q I p=>p [] S H (aL.refl I.sh) ⟨[],.nil,List.nodup_nil,fun a ha=>nomatch ha⟩
theorem mY{md:ag->OD}{mr:ag->ODs}(hd:JD K cls W te md)(ht:JDs K cls W t mr):JDs K cls W (fJ te t) (mDc md mr):=by
 intro Av G S₀ ρ σ S H Q I p;refine hd Av G S₀ ρ σ S H _ I ?_;unfold mDc at p
 cases e:md ρ with
 |exc c fs=>rw[e]at p;exact p
 |bad=>rw[e]at p;exact p
 | ok x=>
   rw[e]at p;intro v S1 H1 w1 r1;refine ht Av G S₀ ρ σ S1 H1 _ (I.grow w1) ?_
   dsimp only at p
   cases e2:mr ρ with
   |exc c fs=>rw[e2]at p;exact fun a C S' H' w x=>p a C S' H' (w1.trans w) x
   |bad=>rw[e2]at p;exact p
   | ok ts=>
     rw[e2]at p;intro vs S2 H2 w2 r2;obtain⟨f2,q2,n2,g2⟩:=r2;have r3:=r1.grow w2;obtain⟨f0,q0,n0,g0⟩:=r1;refine p (v ::vs) S2 H2 (w1.trans w2) ⟨f0++f2,.cons (q0.mono w2.s fun a _ o z=>w2.g _ _ z) q2,List.nodup_append.mpr ⟨n0,n2,fun a ha b hb z=>?_⟩,fun a ha=>?_⟩
     . subst z;obtain⟨o,h1,_⟩:=q0.live a ha;rw[(g2 a hb).1]at h1;cases h1
     . rcases List.mem_append.mp ha with z|z
       . refine⟨(g0 a z).1,?_⟩
         obtain⟨o,h1,_⟩:=q0.live a z
         cases q:S2 a with
         |none=>rfl
         | some o'=>
           rcases w2.new a (by rw[q];simp)with y|y
           . exact absurd (g0 a z).2 y
           . rw[h1]at y;cases y
       . exact⟨w1.g.free (g2 a z).1,(g2 a z).2⟩
theorem Ei{mr:ag->ODs}(h:JDs K cls W t mr):JD K cls W (Bn t) (mDl mr):=by
 intro Av G S₀ ρ σ S H Q I p;refine h Av G S₀ ρ σ S H _ I ?_;unfold mDl at p
 cases e:mr ρ with
 |exc c fs=>rw[e]at p;exact p
 |bad=>rw[e]at p;exact p
 | ok ts=>
   rw[e]at p
   dsimp only at p
   split at p
   . rename_i hl;intro vs S1 H1 w1 r1;obtain⟨fp,r,nd,g⟩:=r1
     refine⟨by rw[r.length];exact hl,fun q hq=>?_⟩
     have w2:aL S1 H1 S1 (upd H1 q (.lst vs)):=aL.heap w1.sh hq
     refine p (.ref q) S1 _ (w1.trans w2) ⟨q ::fp,by unfold aX;exact⟨q,vs,fp,rfl,aY,rfl,r.mono (ay.refl _) fun a _ o z=>w2.g _ _ z⟩,List.nodup_cons.mpr ⟨fun z=>?_,nd⟩,fun a ha=>?_⟩
     . obtain⟨o,h1,_⟩:=r.live q z;rw[hq]at h1;cases h1
     . rcases List.mem_cons.mp ha with z|z
       . subst z;exact⟨w1.g.free hq,w1.sh.free hq⟩
       . exact g a z
   . exact p.elim
theorem SR.F3(I:SR K cls Av G S₀ ρ σ S H)(w:aL S H S' H')(h:yX K cls H S' H' t v):SR K cls Av G S₀ (ρ.set i (some (.tr false t))) (σ.set i (some v)) S' H':=by
 obtain⟨F,J⟩:=I;obtain⟨fp,r,nd,g⟩:=h
 refine⟨_,(J.grow w).put (fp:=fp) (fun t' e=>by cases e;exact⟨v,rfl,r,nd,fun a ha=>⟨J.gh.free (g a ha).1,(g a ha).2⟩,fun z=>nomatch z⟩) (fun a ha=>⟨r.live a ha,J.gh.free (g a ha).1,(g a ha).2⟩) fun j a _ ha hz=>?_⟩
 obtain⟨⟨o,h1,_⟩,_⟩:=J.live j a hz;rw[(g a ha).1]at h1;cases h1
theorem nu{md:ag->OD}(h:JD K cls W te md):JS K cls W (nT te (gH i)) (jZ i md):=by
 intro Av G S₀ ρ σ S H D I p;refine h Av G S₀ ρ σ S H _ I ?_;unfold jZ at p
 cases e:md ρ with
 |exc c fs=>rw[e]at p;exact fun a C S' H' w x=>p a C σ S' H' (I.grow w) w.s x
 |bad=>rw[e]at p;exact p
 |ok t=>rw[e]at p;exact fun v S1 H1 w1 r1=>p _ S1 H1 (I.F3 w1 r1) w1.s
end
section
variable{K:PySem.W.Frag}{cls:String->Option Addr}{W:XW}{Av G S₀ S S' H H' B B':Hp}{ρ:ag}{σ:St}{Q:VK}{F:Nat->List Addr}
theorem aX.yl{ts:List OV}{v:V}{fp:List Addr}(h:aX K cls S H (.ol ts) v fp):∃ p vs f,v=.ref p /\ H p=some (.lst vs) /\ fp=p ::f /\ aU K cls S H ts vs f:=by unfold aX at h;exact h
theorem SRF.o4{i:Nat}{io:Bool}{t:OV}{ts:List OV}{v0:V}{π:List Stp}(J:SRF K cls Av G S₀ ρ σ S H F)(hi:ρ[i]?=some (some (.tr io t)))(hv:σ[i]?=some (some v0))(e:t.get π=some (.ol ts)):
  ∃ q vs ff rest,fW H v0 π (.ref q) /\ H q=some (.lst vs) /\ vs.length=ts.length /\ aU K cls S H ts vs ff /\ (F i).Perm ((q ::ff)++rest) /\ ((q ::ff)++rest).Nodup /\
    ∀ S' H' ts' vs' f',aL S H S' H'->aU K cls S' H' ts' vs' f'->f'.Nodup->(∀ a∈f',a∈ff \/ (H a=none /\ S' a=none)) ->
      ∃ g,SRF K cls Av G S₀ (ρ.set i (some (.tr io (t.put π (.ol ts'))))) σ S' (upd H' q (.lst vs')) (jA F i g) /\ g.Perm ((q ::f')++rest):=by
 obtain⟨w,f1,rest,wk,r1,p1,nd1,gs,c⟩:=J.part hi hv e;obtain⟨q,vs,ff,rfl,hq,rfl,rs⟩:=r1.yl
 refine⟨q,vs,ff,rest,wk,hq,rs.length,rs,p1,nd1,fun S' H' ts' vs' f' wg r' nd' fr=>?_⟩
 have hGq:=(gs q (by simp)).1;have hSq:=(gs q (by simp)).2
 have hS'q:S' q=none:=by
  cases z:S' q with
  |none=>rfl
  | some o=>
    rcases wg.new q (by rw[z];simp)with y|y
    . exact absurd hSq y
    . rw[hq]at y;cases y
 have nq:q∉f':=fun z=>by
  rcases fr q z with y|y
  . exact(List.nodup_cons.mp (List.nodup_append.mp nd1).1).1 y
  . rw[y.1]at hq;cases hq
 have nS:∀ a∈f',S' a=none:=fun a ha=>by
  rcases fr a ha with y|y
  . cases z:S' a with
    |none=>rfl
    | some o=>
      obtain⟨o',h1,_⟩:=rs.live a y
      rcases wg.new a (by rw[z];simp)with k|k
      . exact absurd (gs a (by simp[y])).2 k
      . rw[h1]at k;cases k
  . exact y.2
 refine c S' (upd H' q (.lst vs')) (.ol ts') (q ::f') wg.s (wg.sh.upd hS'q) ((J.gh.trans wg.g).upd hGq) (fun b h=>?_) ?_ (List.nodup_cons.mpr ⟨nq,nd'⟩) (fun a ha=>?_) (fun a ha=>?_) (fun a o hn h=>?_) fun a h=>?_
 . rcases wg.new b h with z|z
   . exact J.new b z
   . exact .inr (J.gh.free z)
 . unfold aX
   exact⟨q,vs',f',rfl,aY,rfl,r'.mono (ay.refl _) fun a ha o h=>by rw[bj (fun z=>nq (by rw[<- z];exact ha))];exact h⟩
 . rcases List.mem_cons.mp ha with z|z
   . subst z;exact .inl (by simp)
   . rcases fr a z with y|y
     . exact .inl (by simp[y])
     . exact .inr y.1
 . rcases List.mem_cons.mp ha with z|z
   . subst z;exact hS'q
   . exact nS a z
 . rw[bj (fun z=>hn (by rw[z];simp))];exact wg.g _ _ h
 . rcases wg.new a h with z|z
   . exact .inl z
   . exact .inr (.inl z)
theorem JP.at{i:Nat}{te:TE}{mp:MP}{io:Bool}{t u:OV}{v0:V}{π:List Stp}{Q:VK}(hp:JP K cls te i mp)(I:SR K cls Av G S₀ ρ σ S H)(hi:ρ[i]?=some (some (.tr io t)))(hv:σ[i]?=some (some v0))(e0:mp ρ=some π)(e1:t.get π=some u)
  (k:∀ w S' H',aL S H S' H'->SR K cls Av G S₀ ρ σ S' H'->fW H' v0 π w->Q w H'):te σ H Q:=
 hp Av G S₀ ρ σ S H Q v0 t π I (by unfold eS;rw[hi];rfl) hv e0 (by rw[e1];rfl) fun w S1 H1 w1 wk=>k w S1 H1 w1 (I.grow w1) wk
theorem mX{i:Nat}{mp:MP}{k:OV->(OV->ag)->OS}{D:Ends}(p:fM K cls W Av G S₀ S D (pY i mp ρ k)):∃ io t π u,ρ[i]?=some (some (.tr io t)) /\ mp ρ=some π /\ t.get π=some u /\ fM K cls W Av G S₀ S D (k u fun u'=>ρ.set i (some (.tr io (t.put π u')))):=by
 unfold pY at p;split at p
 . rename_i io t hi;split at p
   . rename_i π e0;split at p
     . rename_i u e1
       exact⟨io,t,π,u,hi,e0,e1,p⟩
     . exact p.elim
   . exact p.elim
 . exact p.elim
theorem SR.val{i:Nat}{s:Sl}(I:SR K cls Av G S₀ ρ σ S H)(e:ρ[i]?=some (some s)):∃ v,σ[i]?=some (some v):=let ⟨v,h,_⟩:=I.good i s e;⟨v,h⟩
theorem cD{i:Nat}{te tx:TE}{mp:MP}{md:ag->OD}(hp:JP K cls te i mp)(hx:JD K cls W tx md):JS K cls W (pG (tBM K "list" rA te (fJ tx j1))) (br i mp md):=by
 intro Av G S₀ ρ σ S H D I p;obtain⟨io,t,π,u,hi,e0,e1,p⟩:=mX p;obtain⟨v0,hv⟩:=I.val hi
 cases u with
 |sh x=>exact p.elim
 |ob c ks us=>exact p.elim
 |di x=>exact p.elim
 |dt x=>exact p.elim
 | ol ts=>
   dsimp only at p
   refine hp.at I hi hv e0 e1 fun w S1 H1 w1 I1 wk=>?_
   obtain⟨F,J1⟩:=I1;obtain⟨q,vs,ff,rest,wk',hq,hl,rs,_,nd,c⟩:=J1.o4 hi hv e1;have:=wk.inj wk';subst this
   refine⟨.inl ⟨rfl,_,SqL.new hq⟩,?_⟩
   refine hx Av G S₀ ρ σ S1 H1 _ ⟨F,J1⟩ ?_
   cases ed:md ρ with
   |exc c fs=>rw[ed]at p;exact fun a C S' H' w x=>p a C σ S' H' (SR.grow ⟨F,J1⟩ w) (w1.s.trans w.s) x
   |bad=>rw[ed]at p;exact p
   | ok x=>
     rw[ed]at p
     dsimp only at p
     split at p
     . rename_i hlt;intro v S2 H2 w2 r2;obtain⟨fx,rx,ndx,gx⟩:=r2
       refine⟨q,vs,v,rfl,rfl,w2.g _ _ hq,by rw[hl];exact hlt,?_⟩
       have ndf:ff.Nodup:=(List.nodup_cons.mp (List.nodup_append.mp nd).1).2
       have apx:∀ a∈ff,a∉fx:=fun a ha hb=>by
        obtain⟨o,h1,_⟩:=rs.live a ha;rw[(gx a hb).1]at h1;cases h1
       obtain⟨g,J3,_⟩:=c S2 H2 (ts++[x]) (vs++[v]) (ff++(fx++[])) w2 ((rs.mono w2.s fun a _ o h=>w2.g _ _ h).append (.cons rx .nil)) (by
         rw[List.append_nil]
         exact List.nodup_append.mpr ⟨ndf,ndx,fun a ha b hb z=>by subst z;exact apx a ha hb⟩) (fun a ha=>by
         rw[List.append_nil]at ha
         rcases List.mem_append.mp ha with z|z
         . exact .inl z
         . exact .inr (gx a z))
       exact p σ S2 _ ⟨_,J3⟩ (w1.s.trans w2.s)
     . exact p.elim
end
section
variable{K:PySem.W.Frag}{cls:String->Option Addr}{W:XW}{Av G S₀ S S' H H' B B':Hp}{ρ:ag}{σ:St}{Q:VK}{F:Nat->List Addr}
theorem oQ{i:Nat}{te tk tx:TE}{mp:MP}{mk:ag->OE}{md:ag->OD}(hp:JP K cls te i mp)(hk:JE K cls W tk mk)(hx:JD K cls W tx md):JS K cls W (nT tx (EA te tk Cq)) (kD i mp mk md):=by
 intro Av G S₀ ρ σ S H D I p;refine hx Av G S₀ ρ σ S H _ I ?_;unfold kD at p
 cases ed:md ρ with
 |exc c fs=>rw[ed]at p;exact fun a C S' H' w x=>p a C σ S' H' (I.grow w) w.s x
 |bad=>rw[ed]at p;exact p
 | ok x=>
   rw[ed]at p
   dsimp only at p
   obtain⟨io,t,π,u,hi,e0,e1,p⟩:=mX p;obtain⟨v0,hv⟩:=I.val hi
   cases u with
   |sh x=>exact p.elim
   |ob c ks us=>exact p.elim
   |di x=>exact p.elim
   |dt x=>exact p.elim
   | ol ts=>
     dsimp only at p
     intro v S1 H1 w1 r1
     refine hp.at (I.grow w1) hi hv e0 e1 fun w S2 H2 w2 I2 wk=>?_
     have p2:=p.back (w1.s.trans w2.s)
     refine hk.goS I2 p2 fun r z S3 H3 I3 w3 r3 p3=>?_
     cases en:r.pv with
     | int n=>
       rw[en]at p3
       dsimp only at p3
       cases ej:ixP ts.length n with
       |none=>rw[ej]at p3;exact p3.elim
       | some j=>
         rw[ej]at p3;obtain⟨F,J⟩:=id I;obtain⟨q,vs,ff,rest,wk',hq,hl,rs,_,nd,c⟩:=J.o4 hi hv e1;have:=wk.inj (wk'.mono (w1.g.trans w2.g));subst this
         have hz:z=.int n:=by have:=r3.rd I3.sh;rw[en]at this;exact cn this
         subst hz
         have wg:aL S H S3 H3:=(w1.trans w2).trans w3
         have hj:j<ts.length:=by
          unfold ixP at ej;split at ej
          . split at ej
            . cases ej;omega
            . cases ej
          . split at ej
            . cases ej;omega
            . cases ej
         have ndf:ff.Nodup:=(List.nodup_cons.mp (List.nodup_append.mp nd).1).2
         obtain⟨fx,rx,ndx,gx⟩:=(r1.grow w2).grow w3;obtain⟨w0,f1,rs',e1',r1',p1',c1⟩:=rs.at (k:=j) (u:=ts[j]) (by simp[hj])
         obtain⟨g,rg,pg⟩:=c1 S3 H3 x v fx wg.s rx fun a _ o h=>wg.g _ _ h
         have inff:∀ a∈rs',a∈ff:=fun a ha=>p1'.mem_iff.mpr (List.mem_append_right _ ha)
         have ndr:rs'.Nodup:=(List.nodup_append.mp (p1'.nodup_iff.mp ndf)).2.1
         have ndg:g.Nodup:=pg.nodup_iff.mpr (List.nodup_append.mpr ⟨ndx,ndr,fun a ha b hb z=>by
          subst z;obtain⟨o,h1,_⟩:=rs.live a (inff a hb)
          rw[(gx a ha).1]at h1;cases h1⟩)
         obtain⟨g2,J3,_⟩:=c S3 H3 (ts.set j x) (vs.set j v) g wg rg ndg fun a ha=>by
          rcases List.mem_append.mp (pg.mem_iff.mp ha)with z|z
          . exact .inr (gx a z)
          . exact .inl (inff a z)
         exact⟨q,vs,n,j,rfl,rfl,wg.g _ _ hq,by rw[hl];exact ej,p3 σ S3 _ ⟨_,J3⟩ (ay.refl _)⟩
     |_=>rw[en]at p3;exact p3.elim
noncomputable def CM(K:PySem.W.Frag)(cls:String->Option Addr)(W:XW)(Av G S₀:Hp)(σ:St)(S:Hp)(Q:VK):OX->Prop
 |.ok ρ' s=>∀ v S' H',SR K cls Av G S₀ (ρ'++[some s]) (σ++[some v]) S' H'->ay S S'->Q v H'
 |.exc ρ' c fs=>∀ a C S' H',SR K cls Av G S₀ ρ' σ S' H'->ay S S'->kh K cls S' H' c fs a C->W (.ref C) (some a) σ H'
 |.bad=>False
noncomputable def JX(K:PySem.W.Frag)(cls:String->Option Addr)(W:XW)(te:TE)(m:ag->OX):Prop:=∀ Av G S₀ ρ σ S H Q,SR K cls Av G S₀ ρ σ S H->CM K cls W Av G S₀ σ S Q (m ρ)->te σ H Q
theorem oW{i:Nat}{te:TE}{m:ag->OX}(h:JX K cls W te m):JS K cls W (nT te (gH i)) (jj i m):=by
 intro Av G S₀ ρ σ S H D I p;refine h Av G S₀ ρ σ S H _ I ?_;unfold jj at p
 cases e:m ρ with
 |exc ρ' c fs=>rw[e]at p;exact fun a C S' H' I' s' x=>p a C σ S' H' I' s' x
 |bad=>rw[e]at p;exact p
 | ok ρ' s=>
   rw[e]at p
   dsimp only at p
   split at p
   . rename_i hs
     exact fun v S' H' I' s'=>p _ S' H' (I'.fold hs) s'
   . exact p.elim
theorem aU.last{ts:List OV}{vs:List V}{f:List Addr}{x:OV}(h:aU K cls S H ts vs f)(e:ts.getLast?=some x):∃ y f1 f2,vs[vs.length - 1]?=some y /\ aU K cls S H ts.dropLast vs.dropLast f1 /\ aX K cls S H x y f2 /\ f=f1++f2:=by
 induction ts generalizing vs f with
 |nil=>cases e
 | cons t ts ih=>
   obtain⟨v,r,f1,f2,rfl,rfl,h1,h2⟩:=h.cons_inv
   cases ts with
   | nil=>
     unfold aU at h2;obtain⟨rfl,rfl⟩:=h2;simp at e;subst e
     exact⟨v,[],f1,rfl,.nil,h1,by simp⟩
   | cons t2 ts2=>
     rw[List.getLast?_cons_cons]at e;obtain⟨y,g1,g2,e1,r1,r2,rfl⟩:=ih h2 e
     have hr:r≠[]:=by intro z;subst z;have:=h2.length;simp at this
     refine⟨y,f1++g1,g2,?_,?_,r2,by simp⟩
     . cases r with
       |nil=>exact absurd rfl hr
       |cons a r'=>simpa using e1
     . cases r with
       |nil=>exact absurd rfl hr
       |cons a r'=>exact aU.cons h1 r1
theorem Aw{x:OV}{v:V}{fp:List Addr}{i:Nat}(h:aX K cls S H x v fp)(nd:fp.Nodup)(g:∀ a∈fp,G a=none /\ S a=none):oK K cls Av G S H i (slO x) v fp:=by
 cases x with
 |sh y=>unfold aX at h;exact h
 |ol ts=>exact⟨h,nd,g,fun z=>nomatch z⟩
 |ob c ks ts=>exact⟨h,nd,g,fun z=>nomatch z⟩
 |di x=>exact⟨h,nd,g,fun z=>nomatch z⟩
 |dt x=>exact⟨h,nd,g,fun z=>nomatch z⟩
theorem AJ{i:Nat}{te:TE}{mp:MP}(hp:JP K cls te i mp):JX K cls W (El K "list" F8 te) (qG i mp):=by
 intro Av G S₀ ρ σ S H Q I p;unfold qG at p;split at p
 . rename_i io t hi;split at p
   . rename_i π e0;split at p
     . rename_i ts e1;split at p
       . rename_i x ex;obtain⟨v0,hv⟩:=I.val hi
         refine hp.at I hi hv e0 e1 fun w S1 H1 w1 I1 wk=>?_
         obtain⟨F,J1⟩:=id I1;obtain⟨q,vs,ff,rest,wk',hq,hl,rs,pF,nd,c⟩:=J1.o4 hi hv e1;have:=wk.inj wk';subst this;obtain⟨y,f1,f2,ey,ri,rx,rfl⟩:=rs.last ex
         have ndf:(f1++f2).Nodup:=(List.nodup_cons.mp (List.nodup_append.mp nd).1).2
         have nq:q∉f1++f2:=(List.nodup_cons.mp (List.nodup_append.mp nd).1).1
         refine⟨.inl ⟨rfl,_,SqL.new hq⟩,q,vs,y,rfl,rfl,hq,ey,?_⟩
         obtain⟨g,J3,pg⟩:=c S1 H1 ts.dropLast vs.dropLast f1 (aL.refl J1.sh) ri (List.nodup_append.mp ndf).1 fun a ha=>.inl (List.mem_append_left _ ha)
         have in2:∀ a∈f2,a∈F i:=fun a ha=>pF.mem_iff.mpr (by simp[ha])
         have rx':aX K cls S1 (upd H1 q (.lst vs.dropLast)) x y f2:=rx.mono (ay.refl _) fun a ha o h=>by rw[bj (fun z=>nq (by rw[<- z];simp[ha]))];exact h
         have gs2:∀ a∈f2,G a=none /\ S1 a=none:=fun a ha=>(J1.live i a (in2 a ha)).2
         obtain⟨F',J4⟩:=J3.more (s:=some (slO x)) (u:=some y) (fp:=f2) (fun t' e=>by cases e;exact⟨y,rfl,Aw rx' (List.nodup_append.mp ndf).2.1 gs2⟩) (fun a ha=>⟨rx'.live a ha,gs2 a ha⟩) fun j a hj ha hz=>by
          by_cases ej:j=i
          . subst ej;rw[fQ]at hz;have hm:=pg.mem_iff.mp hz;have hd:=List.nodup_append.mp nd
            rcases List.mem_append.mp hm with z|z
            . rcases List.mem_cons.mp z with z|z
              . subst z;exact nq (by simp[ha])
              . exact(List.nodup_append.mp ndf).2.2 a z a ha rfl
            . exact hd.2.2 a (by simp[ha]) a z rfl
          . rw[cX ej]at hz;exact ej (J1.apart j i a hz (in2 a ha))
         exact p y S1 _ ⟨F',J4⟩ w1.s
       . exact p.elim
     . exact p.elim
   . exact p.elim
 . exact p.elim
end
section
variable{K:PySem.W.Frag}{cls:String->Option Addr}{W:XW}{Av G S₀ S S' H H' B B':Hp}{ρ:ag}{σ:St}{Q:VK}{F:Nat->List Addr}
mutual
theorem aX.frozen(s:ay S S'):∀{t:OV} {v:V} {fp:List Addr} {x:PV},aX K cls S H t v fp->pvO t=some x->(∀ a∈fp,S' a=H a)->Rep K S' x v
 | .sh y,v,fp,x,h,e,g=>by
   unfold pvO at e;cases e;unfold aX at h;exact Rep.mono s h.2
 | .ol ts,v,fp,x,h,e,g=>by
   unfold pvO at e;obtain⟨xs,e1,rfl⟩:=Option.map_eq_some_iff.mp e;obtain⟨p,vs,f,rfl,hp,rfl,rs⟩:=h.yl;unfold Rep
   exact⟨p,vs,rfl,SqL.new (by rw[g p (by simp)];exact hp),aU.frozen s rs e1 fun a ha=>g a (by simp[ha])⟩
 |.ob c ks ts,v,fp,x,h,e,g=>by unfold pvO at e;cases e
 |.di c,v,fp,x,h,e,g=>by unfold pvO at e;cases e
 |.dt c,v,fp,x,h,e,g=>by unfold pvO at e;cases e
theorem aU.frozen(s:ay S S'):∀{ts:List OV} {vs:List V} {fp:List Addr} {xs:List PV},aU K cls S H ts vs fp->p9 ts=some xs->(∀ a∈fp,S' a=H a)->bq K S' xs vs
 | [],vs,fp,xs,h,e,g=>by
   unfold p9 at e;cases e;unfold aU at h;rw[h.1];exact .nil
 | t ::ts,vs,fp,xs,h,e,g=>by
   unfold p9 at e;obtain⟨x,e1,e2⟩:=Option.bind_eq_some_iff.mp e;obtain⟨ys,e3,rfl⟩:=Option.map_eq_some_iff.mp e2;obtain⟨v,r,f1,f2,rfl,rfl,h1,h2⟩:=h.cons_inv;exact .cons (aX.frozen s h1 e1 fun a ha=>g a (by simp[ha])) (aU.frozen s h2 e3 fun a ha=>g a (by simp[ha]))
end
theorem SR.Df{i:Nat}{t:OV}{x:PV}(I:SR K cls Av G S₀ ρ σ S H)(hi:ρ[i]?=some (some (.tr false t)))(ex:pvO t=some x):∃ S',ay S S' /\ SR K cls Av G S₀ (ρ.set i (some (.sh x))) σ S' H:=by
 obtain⟨F,J⟩:=I;obtain⟨v,hv,ro,nd,gs,_⟩:=J.own i _ hi
 have J1:SRF K cls Av G S₀ (ρ.set i none) (σ.set i none) S H (jA F i []):=J.put (fun t e=>nomatch e) (fun a ha=>nomatch ha) fun j a _ ha=>nomatch ha
 let S':Hp:=fun a=>if a∈F i then H a else S a
 have sS:ay S S':=fun b u h=>by
  show(if b∈F i then H b else S b)=some u
  rw[if_neg (fun z=>by rw[(gs b z).2]at h;cases h)];exact h
 have sH:ay S' H:=fun b u h=>by
  have h':(if b∈F i then H b else S b)=some u:=h
  split at h'
  . exact h'
  . exact J.sh b u h'
 have off:∀ j a,a∈jA F i [] j->a∉F i:=fun j a ha z=>by
  by_cases ej:j=i
  . subst ej;rw[fQ]at ha;cases ha
  . rw[cX ej]at ha;exact ej (J.apart j i a ha z)
 have J2:=J1.change (S':=S') (H':=H) J.gh sS sH (fun b h=>by
   have h':(if b∈F i then H b else S b)≠none:=h
   split at h'
   . rename_i hb;exact .inr (gs b hb).1
   . exact J.new b h') (fun _ _ _ _ h=>h) (fun _ _ _ h=>h) fun j a ha=>by
     show(if a∈F i then H a else S a)=none
     rw[if_neg (off j a ha)];exact(J1.live j a ha).2.2
 have J3:=J2.put (i:=i) (s:=some (.sh x)) (u:=some v) (fp:=[]) (fun t' e=>by
  cases e
  exact⟨_,rfl,rfl,ro.frozen sS ex fun a ha=>by show(if a∈F i then H a else S a)=H a;rw[if_pos ha]⟩) (fun a ha=>nomatch ha) fun j a _ ha=>nomatch ha
 rw[List.set_set,List.set_set,il hv]at J3
 exact⟨S',sS,_,J3⟩
theorem mj{i:Nat}{ts:TS}{m:ag->OS}(h:JS K cls W ts m):JS K cls W ts (ij i m):=by
 intro Av G S₀ ρ σ S H D I p;unfold ij jV at p;split at p
 . rename_i t e;split at p
   . rename_i x ex;obtain⟨S',s,J⟩:=I.Df e ex;exact h Av G S₀ _ σ S' H D J (p.back s)
   . exact h Av G S₀ ρ σ S H D I p
 . exact h Av G S₀ ρ σ S H D I p
end
open Classical in
noncomputable def minus(H:Hp)(Fc:Nat->List Addr):Hp:=fun a=>if ∃ k,a∈Fc k then none else H a
section
variable{K:PySem.W.Frag}{cls:String->Option Addr}{W:XW}{Av G S₀ S S' H H' B B':Hp}{ρ:ag}{σ:St}{Q:VK}{F Fc Fc':Nat->List Addr}
theorem sY(h:a∈Fc k):minus H Fc a=none:=by unfold minus;rw[if_pos ⟨k,h⟩]
theorem jg(h:∀ k,a∉Fc k):minus H Fc a=H a:=by unfold minus;rw[if_neg (fun ⟨k,z⟩=>h k z)]
theorem qh:ay (minus H Fc) H:=fun b u h=>by
 unfold minus at h;split at h
 . cases h
 . exact h
theorem lW(h:minus H Fc a=none):H a=none \/ ∃ k,a∈Fc k:=by
 unfold minus at h;split at h
 . rename_i z;exact .inr z
 . exact .inl h
noncomputable def GP(K:PySem.W.Frag)(cls:String->Option Addr)(S H Hm:Hp):Sl->V->List Addr->Prop
 |.sh x,v,fp=>fp=[] /\ Rep K S x v
 |.tr true t,v,fp=>aX K cls S H t v fp /\ fp.Nodup
 |.bo t,v,fp=>fp=[] /\ ∃ f,aX K cls S Hm t v f
 |_,_,_=>False
structure AI(K:PySem.W.Frag)(cls:String->Option Addr)(vs:List V)(S H:Hp)(Fc:Nat->List Addr)(outs:List (Option OV))(S' H':Hp)(Fc':Nat->List Addr):Prop where
 s:ay S S'
 sh:ay S' H'
 keep:ay (minus H Fc) H'
 new:∀ b,S' b≠none->S b≠none \/ H b=none \/ ∃ k,b∈Fc k
 out:∀ k t',outs[k]?=some (some t')->∃ u,vs[k]?=some u /\ aX K cls S' H' t' u (Fc' k) /\ (Fc' k).Nodup
 apart:∀ j k a,a∈Fc' j->a∈Fc' k->j=k
 live:∀ k a,a∈Fc' k->minus H Fc a=none /\ S' a=none
noncomputable def Fp(K:PySem.W.Frag)(cls:String->Option Addr)(vs:List V)(S H:Hp)(Fc:Nat->List Addr)(Q:VK)(E:XK):OI->Prop
 |.ok x outs=>∀ v S' H' Fc',AI K cls vs S H Fc outs S' H' Fc'->Rep K S' x v->Q v H'
 |.exc c fs outs=>∀ a C S' H' Fc',AI K cls vs S H Fc outs S' H' Fc'->kh K cls S' H' c fs a C->E (.ref C) (some a) H'
 |.bad=>False
structure Co(K:PySem.W.Frag)(cls:String->Option Addr)(as:List Sl)(vs:List V)(S H:Hp)(Fc:Nat->List Addr):Prop where
 sh:ay S H
 len:as.length=vs.length
 rel:∀(k:Nat) (s:Sl),as[k]?=some s->∃ v,vs[k]?=some v /\ GP K cls S H (minus H Fc) s v (Fc k)
 apart:∀ j k a,a∈Fc j->a∈Fc k->j=k
 live:∀ k a,a∈Fc k->(∃ o,H a=some o /\ isX o=false) /\ S a=none
noncomputable def spI(K:PySem.W.Frag)(cls:String->Option Addr)(f:List Sl->OI):Sp:=fun vs H Q E=>∃ S as Fc,Co K cls as vs S H Fc /\ Fp K cls vs S H Fc Q E (f as)
theorem B3{as:List Sl}{vs:List V}{N:List Str}{i:Nat}{s:Sl}(hl:as.length=vs.length)(e:(iZ N.length as)[i]?=some (some s)):as[i]?=some s /\ (L2.start N vs)[i]?=some ((vs[i]?)):=by
 unfold iZ at e
 by_cases hi:i<as.length
 . rw[List.getElem?_append_left (by simpa using hi),List.getElem?_map]at e
   have hx:as[i]?=some as[i]:=by simp[hi]
   rw[hx]at e;cases e
   refine⟨hx,?_⟩
   unfold L2.start;rw[List.getElem?_append_left (by rw[List.length_map,<- hl];exact hi),List.getElem?_map]
   have hv:vs[i]?=some (vs[i]'(by rw[<- hl];exact hi)):=by simp[<- hl,hi]
   rw[hv];rfl
 . rw[List.getElem?_append_right (by simpa using hi)]at e;rw[List.getElem?_replicate]at e
   split at e<;>cases e
noncomputable def yF(vs:List V):Hp:=fun i=>(vs[i]?).map fun v=>.lst [v]
theorem SR.EU{ρ':ag}(A:ay S H)(I:SR K cls (yF vs) (minus H Fc) S ρ' σ' S' H'):∃ Fc',AI K cls vs S H Fc ((ρ'.take np).map mT) S' H' Fc':=by
 obtain⟨F,J⟩:=I
 refine⟨F,J.s0,J.sh,J.gh,fun b h=>?_,fun k t' e=>?_,J.apart,fun k a ha=>(J.live k a ha).2⟩
 . rcases J.new b h with z|z
   . exact .inl z
   . rcases lW z with y|y
     . exact .inr (.inl y)
     . exact .inr (.inr y)
 . rw[List.getElem?_map]at e;obtain⟨s,e1,e2⟩:=Option.map_eq_some_iff.mp e
   have e3:ρ'[k]?=some s:=by
    rw[List.getElem?_take]at e1;split at e1
    . exact e1
    . cases e1
   cases s with
   |none=>cases e2
   | some s=>
     cases s with
     | tr io t=>
       cases io with
       |false=>cases e2
       | true=>
         cases e2;obtain⟨v,ev,ro,nd,_,hio⟩:=J.own k _ e3;have:=hio rfl;unfold yF at this;obtain⟨u,eu,e4⟩:=Option.map_eq_some_iff.mp this;cases e4
         exact⟨v,eu,ro,nd⟩
     |sh x=>cases e2
     |ow x=>cases e2
     |ex c fs=>cases e2
     |bo t=>cases e2
theorem Cd{P:Program}{w:World}{mg:Str->Option Value}{base:Heap}{x qual:Str}{st:Stmt}{f:Addr}{fd:FuncData}{N ps:List Str}{k:Nat}{m:ag->OS}(Fn:Fun K x qual st f fd)(Sc:bx N ps (aG st))
  (hbody:∀(cdv:Value) (A:Around) (outer:List Env) (s:Shared) (H:Hp) (E:XK),hJ k (A.deeper (envOfC qual (aG st) s.heap.objs.size f cdv)) ->
    ∃ t,QSs (nF (CXE P w) P w K mg base N qual (aG st) f cdv A outer s H E) (cZ st) t /\ JS K cls (fun C a _ H=>∀ H',ay H H'->E C a H') t m):cT P w K mg base (CXE P w) (k+1) f fd ps (spI K cls (fnI ps.length N.length m)):=by
 refine okX Fn Sc (fun vs H Q E h=>?_) fun cdv A outer s H vs Q E hr h=>?_
 . obtain⟨S,as,Fc,a,q⟩:=h;unfold fnI at q;split at q
   . rw[<- a.len];assumption
   . exact q.elim
 . obtain⟨S,as,Fc,a,q⟩:=h;unfold fnI at q;split at q
   . rename_i hl;obtain⟨t,ht,J⟩:=hbody cdv A outer s H E hr
     refine⟨t,ht.out,?_⟩
     have start:SR K cls (yF vs) (minus H Fc) S (iZ N.length as) (L2.start N vs) S H:=by
      refine⟨Fc,qh,ay.refl _,a.sh,fun _ z=>.inl z,fun i s e=>?_,a.apart,fun i b hb=>⟨(a.live i b hb).1,sY hb,(a.live i b hb).2⟩,?_⟩
      . obtain⟨e1,e2⟩:=B3 a.len e;obtain⟨v,ev,r⟩:=a.rel i s e1;rw[ev]at e2
        refine⟨v,e2,?_⟩
        cases s with
        |sh x=>exact r
        |ow x=>exact r.elim
        |ex c fs=>exact r.elim
        | tr io t=>
          cases io with
          |false=>exact r.elim
          |true=>exact⟨r.1,r.2,fun b hb=>⟨sY hb,(a.live i b hb).2⟩,fun _=>by unfold yF;rw[ev];rfl⟩
        |bo t=>exact r
      . unfold iZ L2.start;simp[a.len]
     refine J (yF vs) (minus H Fc) S (iZ N.length as) (L2.start N vs) S H _ start ?_
     cases e:m (iZ N.length as)with
     |nx ρ'=>rw[e]at q;exact fun σ' S' H' I' s'=>let ⟨Fc',E'⟩:=I'.EU (np:=ps.length) a.sh;q .non S' H' Fc' E' (by unfold Rep;rfl)
     |bk ρ'=>rw[e]at q;exact q.elim
     |ct ρ'=>rw[e]at q;exact q.elim
     |bad=>rw[e]at q;exact q.elim
     | rt ρ' r=>
       rw[e]at q
       cases r with
       |al ys=>exact q.elim
       |fr ys=>exact q.elim
       |sh y=>exact fun v σ' S' H' I' s' rr=>let ⟨Fc',E'⟩:=I'.EU (np:=ps.length) a.sh;q v S' H' Fc' E' rr
     | exc ρ' c fs=>
       rw[e]at q
       exact fun b C σ' S' H' I' s' x H2 g2=>let ⟨Fc',E'⟩:=(I'.same g2).EU (np:=ps.length) a.sh;q b C S' H2 Fc' E' (x.mono (ay.refl _) g2)
   . exact q.elim
noncomputable def AR1(K:PySem.W.Frag)(S H:Hp)(ρ:ag)(σ:St):Arg->Sl->V->Prop
 |.e _,.sh x,v=>Rep K S x v
 |.t i mp,.tr true u,v=>∃ io t π v0,ρ[i]?=some (some (.tr io t)) /\ mp ρ=some π /\ t.get π=some u /\ σ[i]?=some (some v0) /\ fW H v0 π v
 |.b i mp,.bo u,v=>∃ t π v0,eS i ρ=some t /\ mp ρ=some π /\ t.get π=some u /\ σ[i]?=some (some v0) /\ fW H v0 π v
 |_,_,_=>False
noncomputable def ARs(K:PySem.W.Frag)(S H:Hp)(ρ:ag)(σ:St):List Arg->List Sl->List V->Prop
 |[],ss,vs=>ss=[] /\ vs=[]
 |a ::as,ss,vs=>∃ s sr v vr,ss=s ::sr /\ vs=v ::vr /\ AR1 K S H ρ σ a s v /\ ARs K S H ρ σ as sr vr
theorem AR1.mono(h:AR1 K S H ρ σ a s v)(s1:ay S S')(g:ay H H'):AR1 K S' H' ρ σ a s v:=by
 cases a with
 |e me=>cases s<;>first|exact h.elim|exact Rep.mono s1 h
 | t i mp=>
   cases s with
   | tr io u=>
     cases io with
     |false=>exact h.elim
     |true=>obtain⟨io,t,π,v0,h1,h2,h3,h4,h5⟩:=h;exact⟨io,t,π,v0,h1,h2,h3,h4,h5.mono g⟩
   |_=>exact h.elim
 | b i mp=>
   cases s with
   |bo u=>obtain⟨t,π,v0,h1,h2,h3,h4,h5⟩:=h;exact⟨t,π,v0,h1,h2,h3,h4,h5.mono g⟩
   |_=>exact h.elim
theorem ARs.at:∀{ss:List Sl} {vs:List V} {k:Nat} {a:Arg},ARs K S H ρ σ as ss vs->as[k]?=some a->∃ s v,ss[k]?=some s /\ vs[k]?=some v /\ AR1 K S H ρ σ a s v:=by
 induction as with
 |nil=>intro ss vs k a _ e;simp at e
 | cons b as ih=>
   rintro ss vs k a ⟨s,sr,v,vr,rfl,rfl,h1,h2⟩ e
   cases k with
   |zero=>simp at e;subst e;exact⟨s,v,rfl,rfl,h1⟩
   |succ k=>simp at e;obtain⟨s',v',e1,e2,r⟩:=ih h2 e;exact⟨s',v',by simpa using e1,by simpa using e2,r⟩
theorem ARs.len{as:List Arg}:∀{ss:List Sl} {vs:List V},ARs K S H ρ σ as ss vs->ss.length=as.length /\ vs.length=as.length:=by
 induction as with
 |nil=>intro ss vs h;rw[h.1,h.2];exact⟨rfl,rfl⟩
 | cons b as ih=>
   rintro ss vs ⟨s,sr,v,vr,rfl,rfl,h1,h2⟩
   have:=ih h2;simp[this]
noncomputable def JAI(K:PySem.W.Frag)(cls:String->Option Addr)(t:TA)(as:List Arg):Prop:=∀ Av G S₀ ρ σ S H Q ss,SR K cls Av G S₀ ρ σ S H->mU as ρ=some ss->(∀ vs S' H',aL S H S' H'->ARs K S' H' ρ σ as ss vs->Q vs H')->t σ H Q
noncomputable def JA1(K:PySem.W.Frag)(cls:String->Option Addr)(te:TE)(a:Arg):Prop:=∀ Av G S₀ ρ σ S H Q s,SR K cls Av G S₀ ρ σ S H->xT a ρ=some s->(∀ v S' H',aL S H S' H'->AR1 K S' H' ρ σ a s v->Q v H')->te σ H Q
theorem B5{me:ag->OE}(h:JE K cls W te me):JA1 K cls te (.e me):=by
 intro Av G S₀ ρ σ S H Q s I e k;unfold xT at e
 dsimp only at e
 refine h Av G S₀ ρ σ S H Q I ?_
 cases em:me ρ with
 |exc c fs=>rw[em]at e;cases e
 |bad=>rw[em]at e;cases e
 | ok r=>
   rw[em]at e;obtain⟨x,e1,rfl⟩:=Option.map_eq_some_iff.mp e;intro v S1 H1 w1 r1;obtain⟨S2,w2,s2,rx⟩:=r1.share w1 e1;exact k v S2 H1 w2 rx
theorem mS(h:JP K cls te i mp):JA1 K cls te (.t i mp):=by
 intro Av G S₀ ρ σ S H Q s I e k;unfold xT at e
 dsimp only at e
 split at e
 . rename_i io t hi;obtain⟨u,e1,rfl⟩:=Option.map_eq_some_iff.mp e;obtain⟨π,e2,e3⟩:=Option.bind_eq_some_iff.mp e1;obtain⟨v0,hv⟩:=I.val hi
   exact h.at I hi hv e2 e3 fun w S1 H1 w1 I1 wk=>k w S1 H1 w1 ⟨io,t,π,v0,hi,e2,e3,hv,wk⟩
 . cases e
theorem rK:JAI K cls j1 []:=by
 intro Av G S₀ ρ σ S H Q ss I e k;cases e;exact k [] S H (aL.refl I.sh) ⟨rfl,rfl⟩
theorem dR(h:JA1 K cls te a)(r:JAI K cls t as):JAI K cls (fJ te t) (a ::as):=by
 intro Av G S₀ ρ σ S H Q ss I e k;unfold mU at e;obtain⟨s,e1,e2⟩:=Option.bind_eq_some_iff.mp e;obtain⟨sr,e3,rfl⟩:=Option.map_eq_some_iff.mp e2
 refine h Av G S₀ ρ σ S H _ s I e1 fun v S1 H1 w1 h1=>?_
 refine r Av G S₀ ρ σ S1 H1 _ sr (I.grow w1) e3 fun vs S2 H2 w2 h2=>?_
 exact k (v ::vs) S2 H2 (w1.trans w2) ⟨s,sr,v,vs,rfl,rfl,h1.mono w2.s w2.g,h2⟩
end
section
variable{K:PySem.W.Frag}{cls:String->Option Addr}{W:XW}{Av G S₀ S S' H H' B B':Hp}{ρ:ag}{σ:St}{Q:VK}{F Fc Fc':Nat->List Addr}
noncomputable def cg:List Arg->List Nat
 |[]=>[]
 |.t i _ ::as=>i ::cg as
 |_ ::as=>cg as
noncomputable def nV:List Arg->List Nat
 |[]=>[]
 |.b i _ ::as=>i ::nV as
 |_ ::as=>nV as
noncomputable def argsOk(as:List Arg):Bool:=decide (cg as).Nodup&&(nV as).all fun i=>!(cg as).contains i
theorem fw{as:List Arg}{k i:Nat}{mp:MP}(h:as[k]?=some (.t i mp)):i∈cg as:=by
 induction as generalizing k with
 |nil=>simp at h
 | cons a as ih=>
   cases k with
   |zero=>simp at h;subst h;simp[cg]
   | succ k=>
     simp at h;have:=ih h
     cases a<;>simp[cg,this]
theorem uN{as:List Arg}{k i:Nat}{mp:MP}(h:as[k]?=some (.b i mp)):i∈nV as:=by
 induction as generalizing k with
 |nil=>simp at h
 | cons a as ih=>
   cases k with
   |zero=>simp at h;subst h;simp[nV]
   | succ k=>
     simp at h;have:=ih h
     cases a<;>simp[nV,this]
theorem jM{as:List Arg}(nd:(cg as).Nodup){j k i:Nat}{mp mp':MP}(h:as[j]?=some (.t i mp))(h':as[k]?=some (.t i mp')):j=k:=by
 induction as generalizing j k with
 |nil=>simp at h
 | cons a as ih=>
   cases j with
   | zero=>
     simp at h;subst h
     cases k with
     |zero=>rfl
     | succ k=>
       simp at h';have:=fw h';simp[cg]at nd;exact absurd this nd.1
   | succ j=>
     cases k with
     | zero=>
       simp at h';subst h';simp at h;have:=fw h;simp[cg]at nd;exact absurd this nd.1
     | succ k=>
       simp at h h'
       have nd':(cg as).Nodup:=by
        cases a with
        |t i' mp=>simp[cg]at nd;exact nd.2
        |e me=>exact nd
        |b i' mp=>exact nd
       rw[ih nd' h h']
theorem nG{as:List Arg}{i:Nat}(h:i∈cg as):∃(k:Nat) (mp:MP),as[k]?=some (.t i mp):=by
 induction as with
 |nil=>simp[cg]at h
 | cons a as ih=>
   cases a with
   | t j mp=>
     simp[cg]at h
     rcases h with h|h
     . subst h;exact⟨0,mp,rfl⟩
     . obtain⟨k,mp',e⟩:=ih h;exact⟨k+1,mp',by simpa using e⟩
   |e me=>obtain⟨k,mp',e⟩:=ih h;exact⟨k+1,mp',by simpa using e⟩
   |b j mp=>obtain⟨k,mp',e⟩:=ih h;exact⟨k+1,mp',by simpa using e⟩
theorem om{as:List Arg}{ρ₀:ag}:∀{us:List (Option OV)} {ρ:ag} {i:Nat},i∉cg as->(dJ ρ₀ as us ρ)[i]?=ρ[i]?:=by
 induction as with
 |nil=>intro us ρ i _;rfl
 | cons a as ih=>
   intro us ρ i h;unfold dJ
   cases a with
   |e me=>rw[ih h];rfl
   |b j mp=>rw[ih h];rfl
   | t j mp=>
     simp[cg]at h;rw[ih h.2]
     have:∀ x:Option Sl,(ρ.set j x)[i]?=ρ[i]?:=fun x=>List.getElem?_set_ne (Ne.symm h.1)
     cases us.head?.join with
     |none=>exact this _
     | some u=>
       unfold i4;dsimp only;split
       . split
         . exact this _
         . exact this _
       . exact this _
theorem vx{as:List Arg}{ρ₀:ag}:∀{us:List (Option OV)} {ρ:ag} {i k:Nat} {mp:MP} {s:Sl},(cg as).Nodup->as[k]?=some (.t i mp)->(dJ ρ₀ as us ρ)[i]?=some (some s) ->
  ∃ io t π u,us[k]?=some (some u) /\ ρ[i]?=some (some (.tr io t)) /\ mp ρ₀=some π /\ s=.tr io (t.put π u):=by
 induction as with
 |nil=>intro us ρ i k mp s _ h;simp at h
 | cons a as ih=>
   intro us ρ i k mp s nd h e;unfold dJ at e
   cases k with
   | zero=>
     simp at h;subst h;simp[cg]at nd;rw[om nd.1]at e
     cases us with
     | nil=>
       unfold i4 at e;simp at e;rw[List.getElem?_set]at e;simp at e
     | cons u us=>
       cases u with
       | none=>
         unfold i4 at e;simp at e;rw[List.getElem?_set]at e;simp at e
       | some u=>
         unfold i4 at e;simp only[List.head?_cons,Option.join_some]at e;split at e
         . rename_i io t hi;split at e
           . rename_i π hπ;rw[List.getElem?_set]at e;simp at e
             exact⟨io,t,π,u,rfl,hi,hπ,e.2.symm⟩
           . rw[List.getElem?_set]at e;simp at e
         . rw[List.getElem?_set]at e;simp at e
   | succ k=>
     simp at h
     have nd':(cg as).Nodup:=by
      cases a with
      |t i' mp=>simp[cg]at nd;exact nd.2
      |e me=>exact nd
      |b i' mp=>exact nd
     obtain⟨io,t,π,u,e1,e2,e3,e4⟩:=ih nd' h e
     refine⟨io,t,π,u,?_,?_,e3,e4⟩
     . cases us with
       |nil=>simp at e1
       |cons _ us=>simpa using e1
     . cases a with
       |e me=>exact e2
       |b j mp=>exact e2
       | t j mp'=>
         have hij:i≠j:=by
          intro z;subst z;simp[cg]at nd;exact nd.1 (fw h)
         have:∀ x:Option Sl,(ρ.set j x)[i]?=ρ[i]?:=fun x=>List.getElem?_set_ne (Ne.symm hij)
         cases q:us.head?.join with
         |none=>rw[q]at e2;unfold i4 at e2;simp only at e2;rw[this]at e2;exact e2
         | some u=>
           rw[q]at e2;unfold i4 at e2;simp only at e2;split at e2
           . split at e2
             . rw[this]at e2;exact e2
             . rw[this]at e2;exact e2
           . rw[this]at e2;exact e2
theorem uD{as:List Arg}{ρ₀:ag}:∀{us:List (Option OV)} {ρ:ag},(dJ ρ₀ as us ρ).length=ρ.length:=by
 induction as with
 |nil=>intro us ρ;rfl
 | cons a as ih=>
   intro us ρ;unfold dJ;rw[ih];unfold i4;split
   . split
     . split<;>simp
     . simp
   . simp
   . rfl
theorem SR.Fq{as:List Arg}{ss:List Sl}{vs:List V}(I:SR K cls Av G S₀ ρ σ S H)(ok:argsOk as=true)(h:ARs K S H ρ σ as ss vs):
  ∃ Fc,Co K cls ss vs S H Fc /\ ∀ outs S' H' Fc',AI K cls vs S H Fc outs S' H' Fc'->SR K cls Av G S₀ (dJ ρ as outs ρ) σ S' H':=by
 obtain⟨F,J⟩:=I;unfold argsOk at ok;rw[Bool.and_eq_true,decide_eq_true_eq]at ok;obtain⟨nd,hb⟩:=ok
 have cell:∀ k:Nat,∃ d:List Addr×List Addr,(∀ i mp,as[k]?=some (.t i mp)->∃ io t π u v0 w,ss[k]?=some (.tr true u) /\ vs[k]?=some w /\ ρ[i]?=some (some (.tr io t)) /\ mp ρ=some π /\ t.get π=some u /\ σ[i]?=some (some v0) /\ aX K cls S H u w d.1 /\ (F i).Perm (d.1++d.2) /\ (d.1++d.2).Nodup /\ (io=true->Av i=some (.lst [v0])) /\
   ∀ S' H' u' f',ay S S'->aX K cls S' H' u' w f'->(∀ a∈d.2,∀ o,H a=some o->H' a=some o)->∃ g,aX K cls S' H' (t.put π u') v0 g /\ g.Perm (f'++d.2)) /\ ((∀ i mp,as[k]?≠some (.t i mp))->d=([],[])):=by
  intro k
  by_cases hk:∃ i mp,as[k]?=some (.t i mp)
  . obtain⟨i,mp,e⟩:=hk;obtain⟨s,w,es,ev,r⟩:=h.at e
    cases s with
    | tr io' u=>
      cases io' with
      |false=>exact r.elim
      | true=>
        obtain⟨io,t,π,v0,h1,h2,h3,h4,h5⟩:=r;obtain⟨v,ev',ro,ndf,gs,hio⟩:=J.own i _ h1;rw[h4]at ev';cases ev';obtain⟨w',f1,rest,wk,r1,p1,c1⟩:=ro.focus h3;have:=h5.inj wk;subst this
        refine⟨(f1,rest),fun i' mp' e'=>?_,fun z=>absurd e (z i mp)⟩
        rw[e]at e'
        cases e'
        exact⟨io,t,π,u,v0,w,es,ev,h1,h2,h3,h4,r1,p1,p1.nodup_iff.mp ndf,hio,c1⟩
    |sh x=>exact r.elim
    |ow x=>exact r.elim
    |ex c fs=>exact r.elim
    |bo x=>exact r.elim
  . exact⟨([],[]),fun i mp e=>absurd ⟨i,mp,e⟩ hk,fun _=>rfl⟩
 obtain⟨d,hd⟩:=Classical.axiomOfChoice cell
 have tOf:∀ k a,a∈(d k).1->∃ i mp,as[k]?=some (.t i mp) /\ a∈F i:=by
  intro k a ha
  by_cases hk:∃ i mp,as[k]?=some (.t i mp)
  . obtain⟨i,mp,e⟩:=hk;obtain⟨io,t,π,u,v0,w,_,_,_,_,_,_,_,p1,_⟩:=(hd k).1 i mp e
    exact⟨i,mp,e,p1.mem_iff.mpr (List.mem_append_left _ ha)⟩
  . rw[(hd k).2 fun i mp e=>hk ⟨i,mp,e⟩]at ha;cases ha
 have hlen:=h.len
 have oI:∀ i a,a∈F i->(∀ k mp,as[k]?=some (.t i mp)->a∉(d k).1)->∀ k,a∉(d k).1:=by
  intro i a ha hn k hk;obtain⟨i',mp,e,ha'⟩:=tOf k a hk;have:=J.apart i i' a ha ha';subst this;exact hn k mp e hk
 refine⟨fun k=>(d k).1,⟨J.sh,by rw[hlen.1,hlen.2],fun k s es=>?_,fun j k a h1 h2=>?_,fun k a ha=>?_⟩,fun outs S' H' Fc' E=>?_⟩
 . have hk:k<as.length:=by rw[<- hlen.1];exact(List.getElem?_eq_some_iff.mp es).1
   obtain⟨s',w,es',ev,r⟩:=h.at (k:=k) (a:=as[k]) (by simp[hk]);rw[es]at es';cases es'
   refine⟨w,ev,?_⟩
   cases q:as[k]with
   | e me=>
     rw[q]at r
     have hz:=(hd k).2 fun i mp e=>by rw[List.getElem?_eq_getElem hk,q]at e;cases e
     cases s<;>first|exact r.elim|exact⟨by rw[hz],r⟩
   | t i mp=>
     have eq:as[k]?=some (.t i mp):=by rw[List.getElem?_eq_getElem hk,q]
     obtain⟨io,t,π,u,v0,w',es',ev',_,_,_,_,r1,_,nd1,_⟩:=(hd k).1 i mp eq;rw[es]at es';cases es';rw[ev]at ev';cases ev'
     exact⟨r1,(List.nodup_append.mp nd1).1⟩
   | b i mp=>
     have eq:as[k]?=some (.b i mp):=by rw[List.getElem?_eq_getElem hk,q]
     rw[q]at r
     have hz:=(hd k).2 fun i mp e=>by rw[eq]at e;cases e
     cases s with
     | bo u=>
       obtain⟨t,π,v0,h1,h2,h3,h4,h5⟩:=r
       refine⟨by rw[hz],?_⟩
       have nt:i∉cg as:=by
        have:=List.all_eq_true.mp hb i (uN eq)
        simpa using this
       have ro:∃ f,aX K cls S (minus H fun k=>(d k).1) t v0 f:=by
        unfold eS at h1
        cases q1:ρ[i]? with
        |none=>rw[q1]at h1;cases h1
        | some o=>
          cases o with
          |none=>rw[q1]at h1;cases h1
          | some s1=>
            rw[q1]at h1;obtain⟨v,ev',r⟩:=J.own i s1 q1;rw[h4]at ev';cases ev'
            cases s1 with
            | tr io t'=>
              cases h1
              exact⟨_,r.1.mono (ay.refl _) fun a ha o ho=>by
               rw[jg (oI i a ha fun k' mp' e'=>absurd (fw e') nt)];exact ho⟩
            | bo t'=>
              cases h1;obtain⟨_,f,r⟩:=r
              exact⟨f,r.mono (ay.refl _) fun a ha o ho=>by
               rw[jg fun k' hk'=>?_]
               . exact J.gh _ _ ho
               . obtain⟨i',mp',_,ha'⟩:=tOf k' a hk'
                 rw[(J.live i' a ha').2.1]at ho;cases ho⟩
            |sh x=>cases h1
            |ow x=>cases h1
            |ex c fs=>cases h1
       obtain⟨f,ro⟩:=ro;obtain⟨w',f1,rest,wk,r1,_,_⟩:=ro.focus h3;have:=h5.inj (wk.mono qh);subst this
       exact⟨f1,r1⟩
     |sh x=>exact r.elim
     |ow x=>exact r.elim
     |ex c fs=>exact r.elim
     |tr io x=>exact r.elim
 . obtain⟨i,mp,e1,m1⟩:=tOf j a h1;obtain⟨i',mp',e2,m2⟩:=tOf k a h2;have:=J.apart i i' a m1 m2;subst this;exact jM nd e1 e2
 . obtain⟨i,mp,e1,m1⟩:=tOf k a ha
   exact⟨(J.live i a m1).1,(J.live i a m1).2.2⟩
 .
  have noS:∀ i a,a∈F i->(∀ k,a∉(d k).1)->S' a=none:=fun i a ha hn=>by
   cases z:S' a with
   |none=>rfl
   | some o=>
     obtain⟨⟨o',h1,_⟩,_,h3⟩:=J.live i a ha
     rcases E.new a (by rw[z];simp)with y|y|⟨k,y⟩
     . exact absurd h3 y
     . rw[h1]at y;cases y
     . exact absurd y (hn k)
  have keep:∀ a o,(∀ k,a∉(d k).1)->H a=some o->H' a=some o:=fun a o hn ho=>E.keep a o (by rw[jg hn];exact ho)
  have restOff:∀ k i mp,as[k]?=some (.t i mp)->∀ a∈(d k).2,a∈F i /\ ∀ k',a∉(d k').1:=fun k i mp e a ha=>by
   obtain⟨io,t,π,u,v0,w,_,_,_,_,_,_,_,p1,nd1,_⟩:=(hd k).1 i mp e
   have m:a∈F i:=p1.mem_iff.mpr (List.mem_append_right _ ha)
   refine⟨m,oI i a m fun k' mp' e' hk'=>?_⟩
   have:=jM nd e e';subst this
   exact(List.nodup_append.mp nd1).2.2 a hk' a ha rfl
  have gcell:∀ k:Nat,∃ g:List Addr,∀ i mp u',as[k]?=some (.t i mp)->outs[k]?=some (some u')->∀ io t π,ρ[i]?=some (some (.tr io t))->mp ρ=some π->∃ v0,σ[i]?=some (some v0) /\ (io=true->Av i=some (.lst [v0])) /\ aX K cls S' H' (t.put π u') v0 g /\ g.Perm (Fc' k++(d k).2):=by
   intro k
   by_cases hk:∃ i mp u',as[k]?=some (.t i mp) /\ outs[k]?=some (some u')
   . obtain⟨i,mp,u',e,eo⟩:=hk;obtain⟨io,t,π,u,v0,w,es,ev,h1,h2,h3,h4,r1,p1,nd1,hio,c1⟩:=(hd k).1 i mp e;obtain⟨w',ew,r',ndf'⟩:=E.out k u' eo;rw[ev]at ew;cases ew
     obtain⟨g,rg,pg⟩:=c1 S' H' u' (Fc' k) E.s r' fun a ha o ho=>keep a o (restOff k i mp e a ha).2 ho
     refine⟨g,fun i' mp' u'' e' eo' io' t' π' h1' h2'=>?_⟩
     rw[e]at e';cases e';rw[eo]at eo';cases eo';rw[h1]at h1';cases h1';rw[h2]at h2';cases h2'
     exact⟨v0,h4,hio,rg,pg⟩
   . exact⟨[],fun i mp u' e eo=>absurd ⟨i,mp,u',e,eo⟩ hk⟩
  obtain⟨g,hg⟩:=Classical.axiomOfChoice gcell
  have fcell:∀ i:Nat,∃ f:List Addr,(i∉cg as->f=F i) /\ ∀ k mp,as[k]?=some (.t i mp)->((∃ io t π u',ρ[i]?=some (some (.tr io t)) /\ mp ρ=some π /\ outs[k]?=some (some u'))->f=g k) /\ ((¬ ∃ io t π u',ρ[i]?=some (some (.tr io t)) /\ mp ρ=some π /\ outs[k]?=some (some u'))->f=[]):=by
   intro i
   by_cases hi:i∈cg as
   . obtain⟨k,mp,e⟩:=nG hi
     by_cases hx:∃ io t π u',ρ[i]?=some (some (.tr io t)) /\ mp ρ=some π /\ outs[k]?=some (some u')
     . refine⟨g k,fun z=>absurd hi z,fun k' mp' e'=>?_⟩
       have:=jM nd e e';subst this;rw[e]at e';cases e'
       exact⟨fun _=>rfl,fun z=>absurd hx z⟩
     . refine⟨[],fun z=>absurd hi z,fun k' mp' e'=>?_⟩
       have:=jM nd e e';subst this;rw[e]at e';cases e'
       exact⟨fun z=>absurd z hx,fun _=>rfl⟩
   . exact⟨F i,fun _=>rfl,fun k mp e=>absurd (fw e) hi⟩
  obtain⟨F',hF'⟩:=Classical.axiomOfChoice fcell
  have memF:∀ i a,a∈F' i->(i∉cg as /\ a∈F i /\ ∀ k,a∉(d k).1) \/ (∃ k mp,as[k]?=some (.t i mp) /\ F' i=g k /\ ((a∈Fc' k) \/ (a∈F i /\ ∀ k,a∉(d k).1)) /\ ∃ io t π u',ρ[i]?=some (some (.tr io t)) /\ mp ρ=some π /\ outs[k]?=some (some u')):=by
   intro i a ha
   by_cases hi:i∈cg as
   . obtain⟨k,mp,e⟩:=nG hi
     by_cases hx:∃ io t π u',ρ[i]?=some (some (.tr io t)) /\ mp ρ=some π /\ outs[k]?=some (some u')
     . have e1:=((hF' i).2 k mp e).1 hx;refine .inr ⟨k,mp,e,e1,?_,hx⟩;obtain⟨io,t,π,u',h1,h2,h3⟩:=hx;obtain⟨v0,_,_,rg,pg⟩:=hg k i mp u' e h3 io t π h1 h2;rw[e1]at ha
       rcases List.mem_append.mp (pg.mem_iff.mp ha)with z|z
       . exact .inl z
       . exact .inr (restOff k i mp e a z)
     . rw[((hF' i).2 k mp e).2 hx]at ha;cases ha
   . have e1:=(hF' i).1 hi;rw[e1]at ha;exact .inl ⟨hi,ha,oI i a ha fun k mp e=>absurd (fw e) hi⟩
  refine⟨F',?_,J.s0.trans E.s,E.sh,fun b hbn=>?_,fun i s e=>?_,fun i j a h1 h2=>?_,fun i a ha=>?_,?_⟩
  . intro b u hu;refine keep b u (fun k hk=>?_) (J.gh b u hu);obtain⟨i,mp,_,m⟩:=tOf k b hk;rw[(J.live i b m).2.1]at hu;cases hu
  . rcases E.new b hbn with z|z|⟨k,z⟩
    . exact J.new b z
    . exact .inr (J.gh.free z)
    . obtain⟨i,mp,_,m⟩:=tOf k b z;exact .inr (J.live i b m).2.1
  . by_cases hi:i∈cg as
    . obtain⟨k,mp,ek⟩:=nG hi;obtain⟨io,t,π,u,e1,e2,e3,rfl⟩:=vx nd ek e;obtain⟨v0,h1,hio,rg,pg⟩:=hg k i mp u ek e1 io t π e2 e3;have e4:=((hF' i).2 k mp ek).1 ⟨io,t,π,u,e2,e3,e1⟩;rw[e4];obtain⟨w',ew,r',ndf'⟩:=E.out k u e1
      refine⟨v0,h1,rg,pg.nodup_iff.mpr (List.nodup_append.mpr ⟨ndf',?_,fun a ha b hb' z=>?_⟩),fun a ha=>?_,hio⟩
      . obtain⟨_,_,_,_,_,_,_,_,_,_,_,_,_,_,nd1,_⟩:=(hd k).1 i mp ek
        exact(List.nodup_append.mp nd1).2.1
      . subst z;obtain⟨m,off⟩:=restOff k i mp ek a hb';have:=(E.live k a ha).1;rw[jg off]at this;obtain⟨⟨o,ho,_⟩,_⟩:=J.live i a m;rw[this]at ho;cases ho
      . rcases List.mem_append.mp (pg.mem_iff.mp ha)with z|z
        . refine⟨?_,(E.live k a z).2⟩
          rcases lW (E.live k a z).1 with y|⟨k',y⟩
          . exact J.gh.free y
          . obtain⟨i',mp',_,m⟩:=tOf k' a y
            exact(J.live i' a m).2.1
        . obtain⟨m,off⟩:=restOff k i mp ek a z
          exact⟨(J.live i a m).2.1,noS i a m off⟩
    . rw[om hi]at e;obtain⟨v,ev,r⟩:=J.own i s e;rw[(hF' i).1 hi]
      have off:∀ a∈F i,∀ k,a∉(d k).1:=fun a ha=>oI i a ha fun k mp e=>absurd (fw e) hi
      exact⟨v,ev,r.mono E.s (fun a ha o ho=>keep a o (off a ha) ho) (fun b o hx ho=>keep b o (fun k hk=>by
       obtain⟨i',mp',_,m⟩:=tOf k b hk;obtain⟨⟨o',h1,h2⟩,_⟩:=J.live i' b m
       rw[ho]at h1;cases h1;rw[hx]at h2;cases h2) ho) fun a ha=>noS i a ha (off a ha)⟩
  .
   have key:∀ i j a,a∈F' i->a∈F' j->(∃ k,a∈Fc' k)->∃ k mp,as[k]?=some (.t i mp) /\ a∈Fc' k:=by
    intro i j a ha _ ⟨k0,hk0⟩
    have no:∀ i',a∈F i'->¬ ∀ k,a∉(d k).1:=fun i' m off=>by
     have:=(E.live k0 a hk0).1;rw[jg off]at this;obtain⟨⟨o,ho,_⟩,_⟩:=J.live i' a m;rw[this]at ho;cases ho
    rcases memF i a ha with⟨_,m,off⟩|⟨k,mp,e,_,z,_⟩
    . exact absurd off (no i m)
    . rcases z with z|⟨m,off⟩
      . exact⟨k,mp,e,z⟩
      . exact absurd off (no i m)
   by_cases hk:∃ k,a∈Fc' k
   . obtain⟨k1,mp1,e1,z1⟩:=key i j a h1 h2 hk;obtain⟨k2,mp2,e2,z2⟩:=key j i a h2 h1 hk;have:=E.apart k1 k2 a z1 z2;subst this;rw[e1]at e2;cases e2;rfl
   . have fromF:∀ i,a ∈ F' i -> a ∈ F i:=fun i ha=>by
      rcases memF i a ha with⟨_,m,_⟩|⟨k,mp,e,_,z,_⟩
      . exact m
      . rcases z with z|⟨m,_⟩
        . exact absurd ⟨k,z⟩ hk
        . exact m
     exact J.apart i j a (fromF i h1) (fromF j h2)
  . rcases memF i a ha with⟨_,m,off⟩|⟨k,mp,e,eg,z,io,t,π,u',x1,x2,x3⟩
    . obtain⟨⟨o,ho,hx⟩,hg',_⟩:=J.live i a m
      exact⟨⟨o,keep a o off ho,hx⟩,hg',noS i a m off⟩
    . obtain⟨v0,_,_,rg,pg⟩:=hg k i mp u' e x3 io t π x1 x2;rw[eg]at ha
      refine⟨rg.live a ha,?_⟩
      rcases z with z|⟨m,off⟩
      . refine⟨?_,(E.live k a z).2⟩
        rcases lW (E.live k a z).1 with y|⟨k',y⟩
        . exact J.gh.free y
        . obtain⟨i',mp',_,m⟩:=tOf k' a y
          exact(J.live i' a m).2.1
      . exact⟨(J.live i a m).2.1,noS i a m off⟩
  . rw[uD];exact J.len
end
end L2.P
namespace L2.E
open PySem PySem.Spec PyProof.Rows L2
end L2.E
namespace L2.P
open PySem PySem.Spec PyProof.Rows L2 L2.E
section
variable{K:PySem.W.Frag}{cls:String->Option Addr}{W:XW}{Av G S₀ S S' H H' B B':Hp}{ρ:ag}{σ:St}{Q:VK}{F Fc Fc':Nat->List Addr}
theorem SR.more(I:SR K cls Av G S₀ ρ σ S H)(h:Rep K S x v):SR K cls Av G S₀ (ρ++[some (.sh x)]) (σ++[some v]) S H:=by
 obtain⟨F,J⟩:=I
 exact J.more (fp:=[]) (fun t e=>by cases e;exact⟨v,rfl,rfl,h⟩) (fun a ha=>nomatch ha) fun j a _ ha=>nomatch ha
theorem vd{f:List Sl->OI}(ok:argsOk as=true)(I:SR K cls Av G S₀ ρ σ S1 H1)(s1:ay S S1)(ar:ARs K S1 H1 ρ σ as ss vs)
  (p:CM K cls W Av G S₀ σ S Q (match f ss with
    |.ok x outs=>.ok (dJ ρ as outs ρ) (.sh x)
    |.exc c fs outs=>.exc (dJ ρ as outs ρ) c fs
    |.bad=>.bad)):spI K cls f vs H1 Q fun C a H'=>W C a σ H':=by
 obtain⟨Fc,A,fin⟩:=I.Fq ok ar
 refine⟨S1,ss,Fc,A,?_⟩
 cases e:f ss with
 |bad=>rw[e]at p;exact p
 |ok x outs=>rw[e]at p;exact fun v S' H' Fc' E r=>p v S' H' ((fin outs S' H' Fc' E).more r) (s1.trans E.s)
 |exc c fs outs=>rw[e]at p;exact fun a C S' H' Fc' E r=>p a C S' H' (fin outs S' H' Fc' E) (s1.trans E.s) r
theorem p8{f:List Sl->OI}(ok:argsOk as=true)(h:JAI K cls t as):JX K cls W (pZ (spI K cls f) [] W t) (iY f as):=by
 intro Av G S₀ ρ σ S H Q I p;unfold iY at p
 cases e:mU as ρ with
 |none=>rw[e]at p;exact p.elim
 | some ss=>
   rw[e]at p
   refine h Av G S₀ ρ σ S H _ ss I e fun vs S1 H1 w1 ar=>?_
   show spI K cls f (vs++[]) H1 Q _;rw[List.append_nil];exact vd ok (I.grow w1) w1.s ar p
end
end L2.P
namespace L2.E
open PySem PySem.Spec PyProof.Rows L2
noncomputable def m7(wi:TI)(ι:List Nat)(tc:TT)(te:TE):TE:=fun σ H Q=>wi σ H fun J H1=>∀ D,H1 D=none->∃ W:Nat->Nat->List V->Hp->Prop,(∃ m,W 0 m [] (upd H1 D (.lst []))) /\ ∀ i m ys H,W i m ys H ->
 H D=some (.lst ys) /\ ((J.stop i H /\ Q (.ref D) H) \/ (J.go i H /\ ∀ x H',J.yld i H x H'->tc (pick ι σ++[some x]) H' fun b H3=>H3 D=some (.lst ys) /\ if b=true then
   te (pick ι σ++[some x]) H3 fun y H2=>H2 D=some (.lst ys) /\ ys.length<sizeLine /\ ∃ m',m'<m /\ W (i+1) m' (ys++[y]) (upd H2 D (.lst (ys++[y])))else ∃ m',m'<m /\ W (i+1) m' ys H3))
section
variable{X:Cx}{scope:Scope}{cl:List (Str×Addr)}{M:List Str}{ι:List Nat}{x:Str}
theorem xA{elt iter c:Expr}{px pos:Pos}{wi:TI}{tc:TT}{te:TE}(S:iy X scope cl M ι x)(hc:X.calm=true)(hi:PI X (.Name x px) iter wi)(hcd:∀ C s₀ H₀ ex,PT (blk X scope cl (M++[x]) C s₀ H₀ ex) c tc)(he:∀ C s₀ H₀ ex,PE (blk X scope cl (M++[x]) C s₀ H₀ ex) elt te)
  (hs:∀ v,foldedSetIterable iter X.env v=pure v:=by intro _;rfl):PE X (.ListComp elt [⟨.Name x px,iter,[c],0⟩] scope pos) (m7 wi ι tc te):=by
 intro pins s σ H Q I h;rw[eval_ListComp];refine wpAny_comprehension_free (use:=none) rfl hs S.clos S.kind (fun y hy hl=>?_) (wpAny_mono (hi pins s σ H _ I h) (fun v s1 h1=>wpAny_mono h1 (fun itv s2 h2=>?_) fun _ _ z=>z) fun _ _ z=>z)
 . have q:=List.all_eq_true.mp S.locs y hy;rw[hl]at q
   simpa using q
 obtain⟨it,fp,tn,J,H2,rfl,I2,T,st2,f2,hW⟩:=h2;have I3:=I2.yT (ys:=[]) (its:=[]) (t':=s2.toks) .nil (Nat.zero_le _);obtain⟨W,⟨m0,w0⟩,turn⟩:=hW s2.heap.objs.size I2.fresh
 have fpo:∀ b∈fp,b<s2.heap.objs.size:=fun b hb=>let ⟨_,e,_⟩:=T.obj _ _ st2 b hb;Heap.lt_size e
 have f3:∀ b∈fp,jk X pins (upd H2 s2.heap.objs.size (.lst [])) b:=fun b hb=>by
  obtain⟨q0,q⟩:=f2 b hb
  exact⟨by rw[bj (Nat.ne_of_lt (fpo b hb))];exact q0,q⟩
 show wpAny _ _ (newObj (.type "list") _ none) _ _ s2;refine wpAny_newObj_type (wpAny_newFunctionEnv (fun y hy=>?_) (by intro y hy;simp at hy) (fun h₁ hn₁ sb₁=>?_) S.kind)
 . have q:=List.all_eq_true.mp S.nocell y hy
   simpa using q
 have hsz:(s2.heap.push { cls:=.type "list",dict:=none,data:=.seq ([]:List Value).toArray }).objs.size=s2.heap.objs.size+1:=Heap.size_push ..
 have hk₁:∀ b o,(s2.heap.push { cls:=.type "list",dict:=none,data:=.seq ([]:List Value).toArray }).get? b=some o->h₁.get? b=some o:=fun b o e=>
  (sb₁.2 b (Nat.ne_of_lt (Heap.lt_size e))).trans (Heap.get?_push_of_some _ e)
 have J0:=sL (t':=s2.toks+([]:List (Str×Value)).length) S I3 (ex:=fp) (fun b hb=>⟨f3 b hb,Nat.lt_of_lt_of_le (fpo b hb) (by rw[hsz];exact Nat.le_succ _)⟩) hn₁ hk₁
 have old:∀ b∈fp,∀ o,s2.heap.get? b=some o->h₁.get? b=some o:=fun b _ o e=>hk₁ b o (Heap.get?_push_of_some _ e)
 have st₁:tn 0 h₁:=T.keep _ _ _ st2 old
 have loop:codeAny (model X.prog X.w) X.A (.compLoop (.ListComp elt [⟨.Name x px,iter,[c],0⟩] scope pos) 0 (.ref it) (.ref s2.heap.objs.size) (compEnvC scope cl (s2.heap.objs.size+1) X.env))
   (compPost (model X.prog X.w) X.A X.xe none (EP X pins σ Q) (.ref s2.heap.objs.size) (s2.heap.objs.size+1)) { s2 with heap:=h₁,toks:=s2.toks+([]:List (Str×Value)).length }:=by
  rw[hsz]at J0
  refine codeAny_loop rfl (fun n s'=>∃ i H' ys v,Inv (blk X scope cl (M++[x]) (s2.heap.objs.size+1) { s2 with heap:=s2.heap.push { cls:=.type "list",data:=.seq ([]:List Value).toArray },toks:=s2.toks } (upd H2 s2.heap.objs.size (.lst [])) fp) [] (pick ι σ++[v]) H' s' /\ tn i s'.heap /\ (∀ b∈fp,H' b=none) /\ W i n ys H')
   (fun n s' hI=>?_) m0 ⟨0,_,[],none,J0,st₁,fun b hb=>(f3 b hb).1,w0⟩
  obtain⟨i,H',ys,v,J',st',fr',w'⟩:=hI;obtain⟨hD,alt⟩:=turn i n ys H' w'
  have fpY:∀{G:Hp},(∀ b∈fp,G b=none)->∀ b∈fp,jk (blk X scope cl (M++[x]) (s2.heap.objs.size+1) { s2 with heap:=s2.heap.push { cls:=.type "list",data:=.seq ([]:List Value).toArray },toks:=s2.toks } (upd H2 s2.heap.objs.size (.lst [])) fp) [] G b:=fun hG b hb=>
   ⟨hG b hb,(J'.ok.exf b hb).1,J'.ok.exfs b hb,.inl hb,(J'.ok.exf b hb).2,fun p hp=>absurd (show p∈([]:List (Addr×Obj)) from hp) (by simp)⟩
  show wpAny _ _ ((compTurn _ 0 (.ref it) (.ref s2.heap.objs.size) (compEnvC scope cl (s2.heap.objs.size+1) X.env)).onRaise _) _ _ s';refine wpAny_noted (wpAny_noRaise ?_);rw[compTurn_list];refine wpAny_bind (wpAny_standAt (wpAny_bind ?_))
  rcases alt with⟨stop,qn⟩|⟨go,step⟩
  . refine thn (T.done (blk X scope cl (M++[x]) (s2.heap.objs.size+1) _ _ fp) rfl rfl rfl hc i [] s' _ H' _ J' (fpY fr') st' stop) fun r s4 ⟨hr,J4⟩=>?_
    subst hr;refine wpAny_pure ?_;obtain⟨m,hm,_⟩:=id J4.loc
    refine⟨m,hm,fun h' sb=>⟨.ref s2.heap.objs.size,H',oN I3 hsz.symm f3 J4 sb,rfl,qn⟩⟩
  . refine thn (T.item (blk X scope cl (M++[x]) (s2.heap.objs.size+1) _ _ fp) rfl rfl rfl hc i [] s' _ H' _ J' (fpY fr') st' go) fun r s4 ⟨u,hr,h4⟩=>?_
    subst hr;refine wpAny_bind (thn h4 fun _ s5 ⟨z,H5,J5,r5,y5,st5,fr5⟩=>?_)
    have J5':=J5.pinned (fpY fr5) (T.obj _ _ st5)
    have hxN:(M++[x])[M.length]?=some x:=by simp
    refine wpAny_bind ?_;refine wpAny_assign_Name ?_;refine gB (X:=blk X scope cl (M++[x]) (s2.heap.objs.size+1) _ _ fp) (i:=M.length) (v:=z) J5' S.nd hxN (.inl (lookup_relabel_local S.var)) r5 (fun s6 J6=>?_) (.inr (lookup_relabel_local S.var))
    have hlp:(pick ι σ).length=M.length:=by
     have q:=congrArg List.length S.names;rw[List.length_map,List.length_map]at q;unfold pick;rw[List.length_map,q]
    have hset:(pick ι σ++[v]).set M.length (some z)=pick ι σ++[some z]:=by
     rw[<- hlp,List.set_append_right _ _ (Nat.le_refl _),Nat.sub_self];rfl
    rw[hset]at J6;refine wpAny_bind (wpAny_tests_one (thn (hcd _ _ _ _ _ s6 _ H5 _ J6 (step z H5 y5)) fun b s7 ⟨H7,J7,hD7,q7⟩=>?_))
    cases b with
    | true=>
      rw[if_pos rfl]at q7;refine wpAny_bind (wpAny_bind (thn (he _ _ _ _ _ s7 _ H7 _ J7 q7) fun yv s8 ⟨y,H8,J8,r8,hD8,hz8,m',hm',w8⟩=>?_));refine wpAny_bind (thn (aW (X:=blk X scope cl (M++[x]) (s2.heap.objs.size+1) _ _ fp) _ s8 _ H8 (.ref s2.heap.objs.size) [y] (.ref s2.heap.objs.size) [yv] (fun _ G=>G=upd H8 s2.heap.objs.size (.lst (ys++[y]))) J8 rfl (.cons r8 .nil) ⟨_,_,y,rfl,rfl,hD8,hz8,rfl⟩) fun _ s9 ⟨_,H9,J9,_,e9⟩=>?_);subst e9;refine wpAny_pure (wpAny_pure ⟨rfl,m',hm',i+1,_,_,some z,J9.eh,?_,fun b hb=>?_,w8⟩)
      . exact T.keep _ _ _ st5 fun b hb o e=>(J9.pin (b,o) (List.mem_append_right _ (List.mem_append_right _ (bS hb e)))).1
      . obtain⟨o,e,d⟩:=T.obj _ _ st5 b hb
        exact(J9.pin (b,o) (List.mem_append_right _ (List.mem_append_right _ (bS hb e)))).2.1
    | false=>
      rw[if_neg (by decide)]at q7;obtain⟨m',hm',w8⟩:=q7;refine wpAny_pure ⟨rfl,m',hm',i+1,_,_,some z,J7.eh,?_,fun b hb=>?_,w8⟩
      . exact T.keep _ _ _ st5 fun b hb o e=>(J7.pin (b,o) (List.mem_append_right _ (List.mem_append_right _ (bS hb e)))).1
      . obtain⟨o,e,d⟩:=T.obj _ _ st5 b hb
        exact(J7.pin (b,o) (List.mem_append_right _ (List.mem_append_right _ (bS hb e)))).2.1
 rw[hsz]at *;exact codeAny_compStart_list loop (T.self X.A 0 _ _ _ st₁ loop)
end
section
variable{X:Cx}{scope:Scope}{cl:List (Str×Addr)}{M:List Str}{ι:List Nat}{x:Str}
theorem AV{i:Nat}{y:Str}{py spos:Pos}{elt iter:Expr}{px pos:Pos}{wi:TI}{te:TE}(S:iy X scope cl M ι x)(hc:X.calm=true)(hi:PI X (.Name x px) iter wi)(he:∀ C s₀ H₀ ex,PE (blk X scope cl (M++[x]) C s₀ H₀ ex) elt te)
  (hN:X.N.Nodup) (hiy:X.N[i]?=some y) (hy:Loc X.env.scope y) (hsw:swapsWith (.ListComp elt [⟨.Name x px,iter,[],0⟩] scope pos) (some (.Name y py)) spos.line X.env=pure true) (hf:X.fn y=true \/ X.env.scope.names.lookup y=some .local:=by first|exact .inl rfl|exact .inr rfl|assumption)
  (hs:∀ v,foldedSetIterable iter X.env v=pure v:=by intro _;rfl):PS X (.Assign [.Name y py] (.ListComp elt [⟨.Name x px,iter,[],0⟩] scope pos) spos) (nT (oe wi ι te) (gH i)):=by
 intro pins s σ H D0 I h;rw[exec_Assign_Name_used _ _ _ _ hsw];refine wpAny_bind (wpAny_standAt (wpAny_bind ?_));show wpAny _ _ (do let _ <- comprehension (.ListComp elt [⟨.Name x px,iter,[],0⟩] scope pos) scope X.env _ (newList []) false (eval iter X.env) (some (assign (.Name y py) X.env))) _ _ s;refine wpAny_bind (wpAny_mono (wpAny_comprehension_free (use:=some (assign (.Name y py) X.env)) (Q:=fun _ s'=>∃ σ' H',Inv X pins σ' H' s' /\ D0.nx σ' H') rfl hs S.clos S.kind (fun y hy hl=>?_) (wpAny_mono (hi pins s σ H _ I h) (fun v s1 h1=>wpAny_mono h1 (fun itv s2 h2=>?_) fun _ _ z=>z) fun _ _ z=>z)) (fun _ s' hq=>wpAny_pure (wpAny_pure hq)) fun _ _ e=>e)
 . have q:=List.all_eq_true.mp S.locs y hy;rw[hl]at q
   simpa using q
 obtain⟨it,fp,tn,J,H2,rfl,I2,T,st2,f2,hW⟩:=h2;have I3:=I2.yT (ys:=[]) (its:=[]) (t':=s2.toks) .nil (Nat.zero_le _);obtain⟨W,⟨m0,w0⟩,turn⟩:=hW s2.heap.objs.size I2.fresh
 have fpo:∀ b∈fp,b<s2.heap.objs.size:=fun b hb=>let ⟨_,e,_⟩:=T.obj _ _ st2 b hb;Heap.lt_size e
 have f3:∀ b∈fp,jk X pins (upd H2 s2.heap.objs.size (.lst [])) b:=fun b hb=>by
  obtain⟨q0,q⟩:=f2 b hb
  exact⟨by rw[bj (Nat.ne_of_lt (fpo b hb))];exact q0,q⟩
 show wpAny _ _ (newObj (.type "list") _ none) _ _ s2;refine wpAny_newObj_type (wpAny_newFunctionEnv (fun y hy=>?_) (by intro y hy;simp at hy) (fun h₁ hn₁ sb₁=>?_) S.kind)
 . have q:=List.all_eq_true.mp S.nocell y hy
   simpa using q
 have hsz:(s2.heap.push { cls:=.type "list",dict:=none,data:=.seq ([]:List Value).toArray }).objs.size=s2.heap.objs.size+1:=Heap.size_push ..
 have hk₁:∀ b o,(s2.heap.push { cls:=.type "list",dict:=none,data:=.seq ([]:List Value).toArray }).get? b=some o->h₁.get? b=some o:=fun b o e=>
  (sb₁.2 b (Nat.ne_of_lt (Heap.lt_size e))).trans (Heap.get?_push_of_some _ e)
 have J0:=sL (t':=s2.toks+([]:List (Str×Value)).length) S I3 (ex:=fp) (fun b hb=>⟨f3 b hb,Nat.lt_of_lt_of_le (fpo b hb) (by rw[hsz];exact Nat.le_succ _)⟩) hn₁ hk₁
 have old:∀ b∈fp,∀ o,s2.heap.get? b=some o->h₁.get? b=some o:=fun b _ o e=>hk₁ b o (Heap.get?_push_of_some _ e)
 have st₁:tn 0 h₁:=T.keep _ _ _ st2 old
 have loop:codeAny (model X.prog X.w) X.A (.compLoop (.ListComp elt [⟨.Name x px,iter,[],0⟩] scope pos) 0 (.ref it) (.ref s2.heap.objs.size) (compEnvC scope cl (s2.heap.objs.size+1) X.env))
   (compPost (model X.prog X.w) X.A X.xe (some (assign (.Name y py) X.env)) (fun _ s'=>∃ σ' H',Inv X pins σ' H' s' /\ D0.nx σ' H') (.ref s2.heap.objs.size) (s2.heap.objs.size+1)) { s2 with heap:=h₁,toks:=s2.toks+([]:List (Str×Value)).length }:=by
  rw[hsz]at J0
  refine codeAny_loop rfl (fun n s'=>∃ i H' ys v,Inv (blk X scope cl (M++[x]) (s2.heap.objs.size+1) { s2 with heap:=s2.heap.push { cls:=.type "list",data:=.seq ([]:List Value).toArray },toks:=s2.toks } (upd H2 s2.heap.objs.size (.lst [])) fp) [] (pick ι σ++[v]) H' s' /\ tn i s'.heap /\ (∀ b∈fp,H' b=none) /\ W i n ys H')
   (fun n s' hI=>?_) m0 ⟨0,_,[],none,J0,st₁,fun b hb=>(f3 b hb).1,w0⟩
  obtain⟨i,H',ys,v,J',st',fr',w'⟩:=hI;obtain⟨hD,alt⟩:=turn i n ys H' w'
  have fpY:∀{G:Hp},(∀ b∈fp,G b=none)->∀ b∈fp,jk (blk X scope cl (M++[x]) (s2.heap.objs.size+1) { s2 with heap:=s2.heap.push { cls:=.type "list",data:=.seq ([]:List Value).toArray },toks:=s2.toks } (upd H2 s2.heap.objs.size (.lst [])) fp) [] G b:=fun hG b hb=>
   ⟨hG b hb,(J'.ok.exf b hb).1,J'.ok.exfs b hb,.inl hb,(J'.ok.exf b hb).2,fun p hp=>absurd (show p∈([]:List (Addr×Obj)) from hp) (by simp)⟩
  show wpAny _ _ ((compTurn _ 0 (.ref it) (.ref s2.heap.objs.size) (compEnvC scope cl (s2.heap.objs.size+1) X.env)).onRaise _) _ _ s';refine wpAny_noted (wpAny_noRaise ?_);rw[qB];refine wpAny_bind (wpAny_standAt (wpAny_bind ?_))
  rcases alt with⟨stop,qn⟩|⟨go,step⟩
  . refine thn (T.done (blk X scope cl (M++[x]) (s2.heap.objs.size+1) _ _ fp) rfl rfl rfl hc i [] s' _ H' _ J' (fpY fr') st' stop) fun r s4 ⟨hr,J4⟩=>?_
    subst hr;refine wpAny_pure ?_;obtain⟨m,hm,_⟩:=id J4.loc
    have I4:Inv X pins σ H' s4:=oN (h':=s4.heap) I3 hsz.symm f3 J4 ⟨rfl,fun _ _=>rfl⟩
    obtain⟨oC,es,ep,hoC,rC⟩:=id hm
    have fC:jk X pins H' (s2.heap.objs.size+1):=I3.xC (by rw[hsz];exact Nat.le_refl _) J4.free
    obtain⟨_,c1,c2,c3,c4,c5⟩:=id fC
    have I5:=I4.pinned (fp:=[s2.heap.objs.size+1]) (fun b hb=>by
     have z:b=s2.heap.objs.size+1:=by simpa using hb
     subst z;exact fC) fun b hb=>by
     have z:b=s2.heap.objs.size+1:=by simpa using hb
     subst z
     exact⟨oC,hoC,fun v z=>by rw[rC.1]at z;cases z⟩
    show wpAny _ _ (assign (.Name y py) X.env (.ref s2.heap.objs.size)) _ _ s4;refine wpAny_assign_Name (gB I5 hN hiy hy (v:=.ref s2.heap.objs.size) rfl (fun s5 I6=>?_) hf)
    have hC5:s5.heap.get? (s2.heap.objs.size+1)=some oC:=(I6.pin (_,oC) (List.mem_append_right _ (List.mem_append_right _ (bS (List.mem_singleton.mpr rfl) hoC)))).1
    refine⟨m,⟨oC,es,ep,hC5,rC⟩,fun h' sb=>⟨_,H',(I6.eh).turned (t':=s5.toks) (it:=s2.heap.objs.size+1) (fun b o hb e=>(sb.2 b hb).trans e) J4.free c1 c3 c4 c5,qn⟩⟩
  . refine thn (T.item (blk X scope cl (M++[x]) (s2.heap.objs.size+1) _ _ fp) rfl rfl rfl hc i [] s' _ H' _ J' (fpY fr') st' go) fun r s4 ⟨u,hr,h4⟩=>?_
    subst hr;refine wpAny_bind (thn h4 fun _ s5 ⟨z,H5,J5,r5,y5,st5,fr5⟩=>?_)
    have J5':=J5.pinned (fpY fr5) (T.obj _ _ st5)
    have hxN:(M++[x])[M.length]?=some x:=by simp
    refine wpAny_bind ?_;refine wpAny_assign_Name ?_;refine gB (X:=blk X scope cl (M++[x]) (s2.heap.objs.size+1) _ _ fp) (i:=M.length) (v:=z) J5' S.nd hxN (.inl (lookup_relabel_local S.var)) r5 (fun s6 J6=>?_) (.inr (lookup_relabel_local S.var))
    have hlp:(pick ι σ).length=M.length:=by
     have q:=congrArg List.length S.names;rw[List.length_map,List.length_map]at q;unfold pick;rw[List.length_map,q]
    have hset:(pick ι σ++[v]).set M.length (some z)=pick ι σ++[some z]:=by
     rw[<- hlp,List.set_append_right _ _ (Nat.le_refl _),Nat.sub_self];rfl
    rw[hset]at J6;refine wpAny_bind (wpAny_bind (thn (he _ _ _ _ _ s6 _ H5 _ J6 (step z H5 y5)) fun yv s7 ⟨y,H7,J7,r7,hD7,hz7,m',hm',w7⟩=>?_));refine wpAny_bind (thn (aW (X:=blk X scope cl (M++[x]) (s2.heap.objs.size+1) _ _ fp) _ s7 _ H7 (.ref s2.heap.objs.size) [y] (.ref s2.heap.objs.size) [yv] (fun _ G=>G=upd H7 s2.heap.objs.size (.lst (ys++[y]))) J7 rfl (.cons r7 .nil) ⟨_,_,y,rfl,rfl,hD7,hz7,rfl⟩) fun _ s8 ⟨_,H8,J8,_,e8⟩=>?_);subst e8;refine wpAny_pure (wpAny_pure ⟨rfl,m',hm',i+1,_,_,some z,J8.eh,?_,fun b hb=>?_,w7⟩)
    . exact T.keep _ _ _ st5 fun b hb o e=>(J8.pin (b,o) (List.mem_append_right _ (List.mem_append_right _ (bS hb e)))).1
    . obtain⟨o,e,d⟩:=T.obj _ _ st5 b hb
      exact(J8.pin (b,o) (List.mem_append_right _ (List.mem_append_right _ (bS hb e)))).2.1
 rw[hsz]at *;exact codeAny_compStart_list loop (T.self X.A 0 _ _ _ st₁ loop)
theorem xW{i:Nat}{y:Str}{py spos:Pos}{elt iter c:Expr}{px pos:Pos}{wi:TI}{tc:TT}{te:TE}(S:iy X scope cl M ι x)(hc:X.calm=true)(hi:PI X (.Name x px) iter wi)(hcd:∀ C s₀ H₀ ex,PT (blk X scope cl (M++[x]) C s₀ H₀ ex) c tc)(he:∀ C s₀ H₀ ex,PE (blk X scope cl (M++[x]) C s₀ H₀ ex) elt te)
  (hN:X.N.Nodup) (hiy:X.N[i]?=some y) (hy:Loc X.env.scope y) (hsw:swapsWith (.ListComp elt [⟨.Name x px,iter,[c],0⟩] scope pos) (some (.Name y py)) spos.line X.env=pure true) (hf:X.fn y=true \/ X.env.scope.names.lookup y=some .local:=by first|exact .inl rfl|exact .inr rfl|assumption)
  (hs:∀ v,foldedSetIterable iter X.env v=pure v:=by intro _;rfl):PS X (.Assign [.Name y py] (.ListComp elt [⟨.Name x px,iter,[c],0⟩] scope pos) spos) (nT (m7 wi ι tc te) (gH i)):=by
 intro pins s σ H D0 I h;rw[exec_Assign_Name_used _ _ _ _ hsw];refine wpAny_bind (wpAny_standAt (wpAny_bind ?_));show wpAny _ _ (do let _ <- comprehension (.ListComp elt [⟨.Name x px,iter,[c],0⟩] scope pos) scope X.env _ (newList []) false (eval iter X.env) (some (assign (.Name y py) X.env))) _ _ s;refine wpAny_bind (wpAny_mono (wpAny_comprehension_free (use:=some (assign (.Name y py) X.env)) (Q:=fun _ s'=>∃ σ' H',Inv X pins σ' H' s' /\ D0.nx σ' H') rfl hs S.clos S.kind (fun y hy hl=>?_) (wpAny_mono (hi pins s σ H _ I h) (fun v s1 h1=>wpAny_mono h1 (fun itv s2 h2=>?_) fun _ _ z=>z) fun _ _ z=>z)) (fun _ s' hq=>wpAny_pure (wpAny_pure hq)) fun _ _ e=>e)
 . have q:=List.all_eq_true.mp S.locs y hy;rw[hl]at q
   simpa using q
 obtain⟨it,fp,tn,J,H2,rfl,I2,T,st2,f2,hW⟩:=h2;have I3:=I2.yT (ys:=[]) (its:=[]) (t':=s2.toks) .nil (Nat.zero_le _);obtain⟨W,⟨m0,w0⟩,turn⟩:=hW s2.heap.objs.size I2.fresh
 have fpo:∀ b∈fp,b<s2.heap.objs.size:=fun b hb=>let ⟨_,e,_⟩:=T.obj _ _ st2 b hb;Heap.lt_size e
 have f3:∀ b∈fp,jk X pins (upd H2 s2.heap.objs.size (.lst [])) b:=fun b hb=>by
  obtain⟨q0,q⟩:=f2 b hb
  exact⟨by rw[bj (Nat.ne_of_lt (fpo b hb))];exact q0,q⟩
 show wpAny _ _ (newObj (.type "list") _ none) _ _ s2;refine wpAny_newObj_type (wpAny_newFunctionEnv (fun y hy=>?_) (by intro y hy;simp at hy) (fun h₁ hn₁ sb₁=>?_) S.kind)
 . have q:=List.all_eq_true.mp S.nocell y hy
   simpa using q
 have hsz:(s2.heap.push { cls:=.type "list",dict:=none,data:=.seq ([]:List Value).toArray }).objs.size=s2.heap.objs.size+1:=Heap.size_push ..
 have hk₁:∀ b o,(s2.heap.push { cls:=.type "list",dict:=none,data:=.seq ([]:List Value).toArray }).get? b=some o->h₁.get? b=some o:=fun b o e=>
  (sb₁.2 b (Nat.ne_of_lt (Heap.lt_size e))).trans (Heap.get?_push_of_some _ e)
 have J0:=sL (t':=s2.toks+([]:List (Str×Value)).length) S I3 (ex:=fp) (fun b hb=>⟨f3 b hb,Nat.lt_of_lt_of_le (fpo b hb) (by rw[hsz];exact Nat.le_succ _)⟩) hn₁ hk₁
 have old:∀ b∈fp,∀ o,s2.heap.get? b=some o->h₁.get? b=some o:=fun b _ o e=>hk₁ b o (Heap.get?_push_of_some _ e)
 have st₁:tn 0 h₁:=T.keep _ _ _ st2 old
 have loop:codeAny (model X.prog X.w) X.A (.compLoop (.ListComp elt [⟨.Name x px,iter,[c],0⟩] scope pos) 0 (.ref it) (.ref s2.heap.objs.size) (compEnvC scope cl (s2.heap.objs.size+1) X.env))
   (compPost (model X.prog X.w) X.A X.xe (some (assign (.Name y py) X.env)) (fun _ s'=>∃ σ' H',Inv X pins σ' H' s' /\ D0.nx σ' H') (.ref s2.heap.objs.size) (s2.heap.objs.size+1)) { s2 with heap:=h₁,toks:=s2.toks+([]:List (Str×Value)).length }:=by
  rw[hsz]at J0
  refine codeAny_loop rfl (fun n s'=>∃ i H' ys v,Inv (blk X scope cl (M++[x]) (s2.heap.objs.size+1) { s2 with heap:=s2.heap.push { cls:=.type "list",data:=.seq ([]:List Value).toArray },toks:=s2.toks } (upd H2 s2.heap.objs.size (.lst [])) fp) [] (pick ι σ++[v]) H' s' /\ tn i s'.heap /\ (∀ b∈fp,H' b=none) /\ W i n ys H')
   (fun n s' hI=>?_) m0 ⟨0,_,[],none,J0,st₁,fun b hb=>(f3 b hb).1,w0⟩
  obtain⟨i,H',ys,v,J',st',fr',w'⟩:=hI;obtain⟨hD,alt⟩:=turn i n ys H' w'
  have fpY:∀{G:Hp},(∀ b∈fp,G b=none)->∀ b∈fp,jk (blk X scope cl (M++[x]) (s2.heap.objs.size+1) { s2 with heap:=s2.heap.push { cls:=.type "list",data:=.seq ([]:List Value).toArray },toks:=s2.toks } (upd H2 s2.heap.objs.size (.lst [])) fp) [] G b:=fun hG b hb=>
   ⟨hG b hb,(J'.ok.exf b hb).1,J'.ok.exfs b hb,.inl hb,(J'.ok.exf b hb).2,fun p hp=>absurd (show p∈([]:List (Addr×Obj)) from hp) (by simp)⟩
  show wpAny _ _ ((compTurn _ 0 (.ref it) (.ref s2.heap.objs.size) (compEnvC scope cl (s2.heap.objs.size+1) X.env)).onRaise _) _ _ s';refine wpAny_noted (wpAny_noRaise ?_);rw[compTurn_list];refine wpAny_bind (wpAny_standAt (wpAny_bind ?_))
  rcases alt with⟨stop,qn⟩|⟨go,step⟩
  . refine thn (T.done (blk X scope cl (M++[x]) (s2.heap.objs.size+1) _ _ fp) rfl rfl rfl hc i [] s' _ H' _ J' (fpY fr') st' stop) fun r s4 ⟨hr,J4⟩=>?_
    subst hr;refine wpAny_pure ?_;obtain⟨m,hm,_⟩:=id J4.loc
    have I4:Inv X pins σ H' s4:=oN (h':=s4.heap) I3 hsz.symm f3 J4 ⟨rfl,fun _ _=>rfl⟩
    obtain⟨oC,es,ep,hoC,rC⟩:=id hm
    have fC:jk X pins H' (s2.heap.objs.size+1):=I3.xC (by rw[hsz];exact Nat.le_refl _) J4.free
    obtain⟨_,c1,c2,c3,c4,c5⟩:=id fC
    have I5:=I4.pinned (fp:=[s2.heap.objs.size+1]) (fun b hb=>by
     have z:b=s2.heap.objs.size+1:=by simpa using hb
     subst z;exact fC) fun b hb=>by
     have z:b=s2.heap.objs.size+1:=by simpa using hb
     subst z
     exact⟨oC,hoC,fun v z=>by rw[rC.1]at z;cases z⟩
    show wpAny _ _ (assign (.Name y py) X.env (.ref s2.heap.objs.size)) _ _ s4;refine wpAny_assign_Name (gB I5 hN hiy hy (v:=.ref s2.heap.objs.size) rfl (fun s5 I6=>?_) hf)
    have hC5:s5.heap.get? (s2.heap.objs.size+1)=some oC:=(I6.pin (_,oC) (List.mem_append_right _ (List.mem_append_right _ (bS (List.mem_singleton.mpr rfl) hoC)))).1
    refine⟨m,⟨oC,es,ep,hC5,rC⟩,fun h' sb=>⟨_,H',(I6.eh).turned (t':=s5.toks) (it:=s2.heap.objs.size+1) (fun b o hb e=>(sb.2 b hb).trans e) J4.free c1 c3 c4 c5,qn⟩⟩
  . refine thn (T.item (blk X scope cl (M++[x]) (s2.heap.objs.size+1) _ _ fp) rfl rfl rfl hc i [] s' _ H' _ J' (fpY fr') st' go) fun r s4 ⟨u,hr,h4⟩=>?_
    subst hr;refine wpAny_bind (thn h4 fun _ s5 ⟨z,H5,J5,r5,y5,st5,fr5⟩=>?_)
    have J5':=J5.pinned (fpY fr5) (T.obj _ _ st5)
    have hxN:(M++[x])[M.length]?=some x:=by simp
    refine wpAny_bind ?_;refine wpAny_assign_Name ?_;refine gB (X:=blk X scope cl (M++[x]) (s2.heap.objs.size+1) _ _ fp) (i:=M.length) (v:=z) J5' S.nd hxN (.inl (lookup_relabel_local S.var)) r5 (fun s6 J6=>?_) (.inr (lookup_relabel_local S.var))
    have hlp:(pick ι σ).length=M.length:=by
     have q:=congrArg List.length S.names;rw[List.length_map,List.length_map]at q;unfold pick;rw[List.length_map,q]
    have hset:(pick ι σ++[v]).set M.length (some z)=pick ι σ++[some z]:=by
     rw[<- hlp,List.set_append_right _ _ (Nat.le_refl _),Nat.sub_self];rfl
    rw[hset]at J6;refine wpAny_bind (wpAny_tests_one (thn (hcd _ _ _ _ _ s6 _ H5 _ J6 (step z H5 y5)) fun b s7 ⟨H7,J7,hD7,q7⟩=>?_))
    cases b with
    | true=>
      rw[if_pos rfl]at q7;refine wpAny_bind (wpAny_bind (thn (he _ _ _ _ _ s7 _ H7 _ J7 q7) fun yv s8 ⟨y,H8,J8,r8,hD8,hz8,m',hm',w8⟩=>?_));refine wpAny_bind (thn (aW (X:=blk X scope cl (M++[x]) (s2.heap.objs.size+1) _ _ fp) _ s8 _ H8 (.ref s2.heap.objs.size) [y] (.ref s2.heap.objs.size) [yv] (fun _ G=>G=upd H8 s2.heap.objs.size (.lst (ys++[y]))) J8 rfl (.cons r8 .nil) ⟨_,_,y,rfl,rfl,hD8,hz8,rfl⟩) fun _ s9 ⟨_,H9,J9,_,e9⟩=>?_);subst e9;refine wpAny_pure (wpAny_pure ⟨rfl,m',hm',i+1,_,_,some z,J9.eh,?_,fun b hb=>?_,w8⟩)
      . exact T.keep _ _ _ st5 fun b hb o e=>(J9.pin (b,o) (List.mem_append_right _ (List.mem_append_right _ (bS hb e)))).1
      . obtain⟨o,e,d⟩:=T.obj _ _ st5 b hb
        exact(J9.pin (b,o) (List.mem_append_right _ (List.mem_append_right _ (bS hb e)))).2.1
    | false=>
      rw[if_neg (by decide)]at q7;obtain⟨m',hm',w8⟩:=q7;refine wpAny_pure ⟨rfl,m',hm',i+1,_,_,some z,J7.eh,?_,fun b hb=>?_,w8⟩
      . exact T.keep _ _ _ st5 fun b hb o e=>(J7.pin (b,o) (List.mem_append_right _ (List.mem_append_right _ (bS hb e)))).1
      . obtain⟨o,e,d⟩:=T.obj _ _ st5 b hb
        exact(J7.pin (b,o) (List.mem_append_right _ (List.mem_append_right _ (bS hb e)))).2.1
 rw[hsz]at *;exact codeAny_compStart_list loop (T.self X.A 0 _ _ _ st₁ loop)
end
end L2.E
namespace L2.P
open PySem PySem.Spec PyProof.Rows L2 L2.E
section
variable{K:PySem.W.Frag}{cls:String->Option Addr}{W:XW}{Av G S₀ S S' H H' B B':Hp}{ρ:ag}{σ:St}{Q:VK}
theorem Fw{ml me:ag->OE}{ι:List Nat}(hι:ι.Nodup)(hl:JE K cls W tl ml)(he:JE K cls (fun _ _ _ _=>False) te me):JE K cls W (oe (GX K tl) ι te) (Es ml ι me):=by
 intro Av G S₀ ρ σ S H Q I p
 refine hl.go I p fun r v S1 H1 I1 w1 r1 p1=>?_
 have ra:=r1.rd I1.sh
 cases e:r.pv with
 | tup xs=>
   rw[e]at p1 ra;obtain⟨a,vs,rfl,hq,hr⟩:=jz ra
   refine⟨a,rfl,⟨vs,ay.tup I1.sh hq⟩,?_⟩
   dsimp only at p1
   cases em:cf me (b4 ι ρ) xs with
   |exc c fs=>rw[em]at p1;exact p1.elim
   |bad=>rw[em]at p1;exact p1.elim
   | ok ys=>
     rw[em]at p1;simp only[noX]at p1;split at p1
     . rename_i hlen
       refine kX hι he I1 em hlen (fun k H' x g hx=>?_) (fun H' g=>⟨vs,ay.tup (I1.sh.trans g) hq,by rw[hr.length];exact Nat.le_refl _⟩) fun D S' H' w nD sD ⟨us,hD,rr⟩=>p1 (.ref D) S' H' w ⟨D,us,rfl,nD,sD,hD,rr⟩
       obtain⟨u,hu,ru⟩:=hr.get hx
       refine⟨⟨vs,u,ay.tup (I1.sh.trans g) hq,hu⟩,?_⟩
       rintro v' H2 ⟨rfl,hv⟩
       have:=hv vs (ay.tup (I1.sh.trans g) hq);rw[hu]at this;cases this
       exact⟨rfl,ru⟩
     . exact p1.elim
 |_=>rw[e]at p1;exact p1.elim
theorem tO{J:It}{ι:List Nat}{mc:ag->OT}{me:ag->OE}{xs ys:List PV}(hι:ι.Nodup)(hc:JT K cls (fun _ _ _ _=>False) tc mc)(he:JE K cls (fun _ _ _ _=>False) te me)(I:SR K cls Av G S₀ ρ σ S H)(hy:eZ mc me (b4 ι ρ) xs=.ok ys)(hl:ys.length<=lim)
  (go:∀ k H' x,ay H H'->xs[k]?=some x->J.go k H' /\ ∀ v H2,J.yld k H' v H2->H2=H' /\ Rep K S x v) (stop:∀ H',ay H H'->J.stop xs.length H')
  (hQ:∀ D S' H',aL S H S' H'->H D=none->S' D=none->(∃ us,H' D=some (.lst us) /\ bq K S' ys us)->Q (.ref D) H'):
  ∀ D,H D=none->∃ W:Nat->Nat->List V->Hp->Prop,(∃ m,W 0 m [] (upd H D (.lst []))) /\ ∀ i m us H',W i m us H' ->
    H' D=some (.lst us) /\ ((J.stop i H' /\ Q (.ref D) H') \/ (J.go i H' /\ ∀ x H2,J.yld i H' x H2->tc (L2.E.pick ι σ++[some x]) H2 fun b H4=>H4 D=some (.lst us) /\ if b=true then te (L2.E.pick ι σ++[some x]) H4 fun y H3=>H3 D=some (.lst us) /\ us.length<sizeLine /\ ∃ m',m'<m /\ W (i+1) m' (us++[y]) (upd H3 D (.lst (us++[y])))else ∃ m',m'<m /\ W (i+1) m' us H4)):=by
 intro D nD
 refine⟨fun k m us H'=>m+k=xs.length /\ H' D=some (.lst us) /\ ∃ S' zs ws,ay S S' /\ ay H H' /\ ay S' H' /\ (∀ b,S' b≠none->S b≠none \/ (H b=none /\ b≠D)) /\ bq K S' zs us /\ eZ mc me (b4 ι ρ) (xs.drop k)=.ok ws /\ ys=zs++ws,
  ⟨xs.length,rfl,aY,S,[],ys,ay.refl _,ay.new nD,I.sh.trans (ay.new nD),fun b z=>.inl z,.nil,hy,rfl⟩,?_⟩
 rintro k m us H' ⟨hm,hD,S',zs,ws,s1,g1,sh1,n1,r1,e1,rfl⟩
 refine⟨hD,?_⟩
 have hSD:S' D=none:=by
  cases q:S' D with
  |none=>rfl
  | some o=>
    rcases n1 D (by rw[q];simp)with z|⟨_,z⟩
    . exact absurd (I.sh.free nD) z
    . exact absurd rfl z
 by_cases hk:k<xs.length
 . refine .inr ?_
   have hx:xs[k]?=some xs[k]:=by simp[hk]
   obtain⟨hgo,hyld⟩:=go k H' xs[k] g1 hx
   refine⟨hgo,fun v H2 hv=>?_⟩
   obtain⟨rfl,rv⟩:=hyld v H2 hv;rw[List.drop_eq_getElem_cons hk]at e1
   have I1:SR K cls Av G S₀ ρ σ S' H2:=I.grow ⟨s1,g1,sh1,fun b z=>by
    rcases n1 b z with z|⟨z,_⟩
    . exact .inl z
    . exact .inr z⟩
   have Ip:=I1.pick hι (Rep.mono s1 rv);refine hc _ G S₀ _ _ S' H2 _ Ip ?_;unfold eZ at e1;split at e1
   . rename_i ec;rw[ec];intro S2 H3 w2
     have hSD2:S2 D=none:=by
      cases q:S2 D with
      |none=>rfl
      | some o=>
        rcases w2.new D (by rw[q];simp)with z|z
        . exact absurd hSD z
        . rw[hD]at z;cases z
     refine⟨w2.g _ _ hD,?_⟩
     rw[if_pos rfl];refine he _ G S₀ _ _ S2 H3 _ (Ip.grow w2) ?_
     cases em:me (b4 ι ρ++[some (.sh xs[k])])with
     |exc c fs=>rw[em]at e1;cases e1
     |bad=>rw[em]at e1;cases e1
     | ok r=>
       rw[em]at e1;simp only[OE.dk]at e1
       cases es:fq r with
       |none=>rw[es]at e1;cases e1
       | some y=>
         rw[es]at e1
         dsimp only at e1
         cases e2:eZ mc me (b4 ι ρ) (xs.drop (k+1))with
         |exc c fs=>rw[e2]at e1;cases e1
         |bad=>rw[e2]at e1;cases e1
         | ok zs'=>
           rw[e2]at e1;simp only[OA.dk]at e1;cases e1;intro u S4 H4 w4 r4;obtain⟨S3,w3,s3,ru⟩:=r4.share w4 es
           have hl2:(zs++y ::zs').length<=lim:=hl
           have w5:=w2.trans w3
           have hSD3:S3 D=none:=by
            cases q:S3 D with
            |none=>rfl
            | some o=>
              rcases w3.new D (by rw[q];simp)with z|z
              . exact absurd hSD2 z
              . rw[w2.g _ _ hD]at z;cases z
           refine⟨w5.g _ _ hD,?_,m - 1,by omega,by omega,aY,S3,zs++[y],zs',s1.trans w5.s,(g1.trans w5.g).upd nD,w3.sh.upd hSD3,fun b z=>?_,(r1.mono w5.s).append (.cons ru .nil),e2,by simp⟩
           . rw[r1.length,<- uM];rw[List.length_append,List.length_cons]at hl2;omega
           . rcases w5.new b z with z|z
             . exact n1 b z
             . refine .inr ⟨g1.free z,fun e=>?_⟩;rw[e,hD]at z;cases z
   . rename_i ec;rw[ec];intro S2 H3 w2
     refine⟨w2.g _ _ hD,?_⟩
     rw[if_neg (by decide)]
     refine⟨m - 1,by omega,by omega,w2.g _ _ hD,S2,zs,ws,s1.trans w2.s,g1.trans w2.g,w2.sh,fun b z=>?_,r1.mono w2.s,e1,rfl⟩
     rcases w2.new b z with z|z
     . exact n1 b z
     . refine .inr ⟨g1.free z,fun e=>?_⟩;rw[e,hD]at z;cases z
   . cases e1
 . have hk':k=xs.length:=by omega
   subst hk';refine .inl ⟨stop H' g1,?_⟩;rw[List.drop_length]at e1;cases e1
   exact hQ D S' H' ⟨s1,g1,sh1,fun b z=>by
    rcases n1 b z with z|⟨z,_⟩
    . exact .inl z
    . exact .inr z⟩ nD hSD ⟨us,hD,by rw[List.append_nil];exact r1⟩
theorem pQ{ml me:ag->OE}{mc:ag->OT}{ι:List Nat}(hι:ι.Nodup)(hl:JE K cls W tl ml)(hc:JT K cls (fun _ _ _ _=>False) tc mc)(he:JE K cls (fun _ _ _ _=>False) te me):JE K cls W (m7 (tG K tl) ι tc te) (gA ml ι mc me):=by
 intro Av G S₀ ρ σ S H Q I p
 refine hl.go I p fun r v S1 H1 I1 w1 r1 p1=>?_
 have ra:=r1.rd I1.sh
 cases e:r.pv with
 | lst xs=>
   rw[e]at p1 ra;obtain⟨a,vs,rfl,hq,hr⟩:=eU ra
   refine⟨a,rfl,⟨vs,hq⟩,?_⟩
   dsimp only at p1
   cases em:eZ mc me (b4 ι ρ) xs with
   |exc c fs=>rw[em]at p1;exact p1.elim
   |bad=>rw[em]at p1;exact p1.elim
   | ok ys=>
     rw[em]at p1;simp only[noX]at p1;split at p1
     . rename_i hlen
       refine tO hι hc he I1 em hlen (fun k H' x g hx=>?_) (fun H' g=>⟨vs,ay.seq g hq,by rw[hr.length];exact Nat.le_refl _⟩) fun D S' H' w nD sD ⟨us,hD,rr⟩=>p1 (.ref D) S' H' w ⟨D,us,rfl,nD,sD,hD,rr⟩
       obtain⟨u,hu,ru⟩:=hr.get hx
       refine⟨⟨vs,u,ay.seq g hq,hu⟩,?_⟩
       rintro v' H2 ⟨rfl,hv⟩
       have:=hv vs (ay.seq g hq);rw[hu]at this;cases this
       exact⟨rfl,ru⟩
     . exact p1.elim
 |_=>rw[e]at p1;exact p1.elim
theorem sE:JU K (fun xs H Q=>∃ p ys,xs=[.ref p] /\ ((SqL K H p ys /\ ∀ l,H l=none->Q (.ref l) (upd H l (.tup ys))) \/ (SqT K H p ys /\ Q (.ref p) H))) iT:=by
 intro S H x v rr Q I hx e k
 cases x with
 | lst xs=>
   cases e;obtain⟨p,vs,rfl,hq,r⟩:=eU hx
   refine⟨p,vs,rfl,.inl ⟨hq,fun l hl=>k _ _ _ (aL.both I hl) ?_⟩⟩
   show Rep K _ _ _;unfold Rep
   exact⟨l,vs,rfl,SqT.new aY,r.mono (aL.both (o:=.tup vs) I hl).s⟩
 | tup xs=>
   cases e;obtain⟨p,vs,rfl,hq,r⟩:=jz hx
   refine⟨p,vs,rfl,.inr ⟨ay.tup I hq,k _ S H (aL.refl I) ?_⟩⟩
   show Rep K _ _ _;unfold Rep
   exact⟨p,vs,rfl,hq,r⟩
 |_=>cases e
end
end L2.P
namespace L2.E
open PySem PySem.Spec PyProof.Rows L2
theorem xc{X:Cx}{cl:List (Str×Addr)}(S:iy X scope cl M ι x)(hc:X.calm=true)(hi:QI X (.Name x px) iter wi)(hcd:∀ C s₀ H₀ ex,QT (blk X scope cl (M++[x]) C s₀ H₀ ex) c tc)(he:∀ C s₀ H₀ ex,QE (blk X scope cl (M++[x]) C s₀ H₀ ex) elt te)
  (hs:∀ v,foldedSetIterable iter X.env v=pure v:=by intro _;rfl):QE X (.ListComp elt [⟨.Name x px,iter,[c],0⟩] scope pos) (m7 wi ι tc te):=⟨xA S hc hi.out (fun a b c d=>(hcd a b c d).out) (fun a b c d=>(he a b c d).out) hs⟩
theorem vH{X:Cx}{cl:List (Str×Addr)}{py spos:Pos}(hN:X.N.Nodup)(hiy:X.N[i]?=some y)(hy:Loc X.env.scope y)(S:iy X scope cl M ι x)(hc:X.calm=true)(hi:QI X (.Name x px) iter wi)(he:∀ C s₀ H₀ ex,QE (blk X scope cl (M++[x]) C s₀ H₀ ex) elt te)
  (hsw:swapsWith (.ListComp elt [⟨.Name x px,iter,[],0⟩] scope pos) (some (.Name y py)) spos.line X.env=pure true:=by rfl) (hf:X.fn y=true \/ X.env.scope.names.lookup y=some .local:=by first|exact .inl rfl|exact .inr rfl|assumption)
  (hs:∀ v,foldedSetIterable iter X.env v=pure v:=by intro _;rfl):QS X (.Assign [.Name y py] (.ListComp elt [⟨.Name x px,iter,[],0⟩] scope pos) spos) (nT (oe wi ι te) (gH i)):=⟨AV S hc hi.out (fun a b c d=>(he a b c d).out) hN hiy hy hsw hf hs⟩
theorem xX{X:Cx}{cl:List (Str×Addr)}{py spos:Pos}(hN:X.N.Nodup)(hiy:X.N[i]?=some y)(hy:Loc X.env.scope y)(S:iy X scope cl M ι x)(hc:X.calm=true)(hi:QI X (.Name x px) iter wi)(hcd:∀ C s₀ H₀ ex,QT (blk X scope cl (M++[x]) C s₀ H₀ ex) c tc)(he:∀ C s₀ H₀ ex,QE (blk X scope cl (M++[x]) C s₀ H₀ ex) elt te)
  (hsw:swapsWith (.ListComp elt [⟨.Name x px,iter,[c],0⟩] scope pos) (some (.Name y py)) spos.line X.env=pure true:=by rfl) (hf:X.fn y=true \/ X.env.scope.names.lookup y=some .local:=by first|exact .inl rfl|exact .inr rfl|assumption)
  (hs:∀ v,foldedSetIterable iter X.env v=pure v:=by intro _;rfl):QS X (.Assign [.Name y py] (.ListComp elt [⟨.Name x px,iter,[c],0⟩] scope pos) spos) (nT (m7 wi ι tc te) (gH i)):=⟨xW S hc hi.out (fun a b c d=>(hcd a b c d).out) (fun a b c d=>(he a b c d).out) hN hiy hy hsw hf hs⟩
end L2.E
namespace L2.P
open PySem PySem.Spec PyProof.Rows L2 L2.E
end L2.P
namespace L2.E
open PySem PySem.Spec PyProof.Rows L2
end L2.E
namespace L2.P
open PySem PySem.Spec PyProof.Rows L2 L2.E
end L2.P
namespace L2.P
open PySem
end L2.P
namespace L2.P
open PySem PySem.Spec PyProof.Rows L2 L2.E
end L2.P
namespace L2.P
open PySem
noncomputable def sA(x:Str):List PV:=x.cps.toList.map fun c=>.str ⟨#[c]⟩
noncomputable def j7(ml:ag->OE)(ι:List Nat)(me:ag->OE):ag->OE:=fun ρ=>(ml ρ).bind fun r=>match r.pv with
 |.str x=>noX (cf me (b4 ι ρ) (sA x))
 |_=>.bad
@[simp] theorem yY(ml:ag->OE)(ι:List Nat)(me:ag->OE)(ρ:ag):j7 ml ι me ρ=((ml ρ).bind fun r=>match r.pv with
  |.str x=>noX (cf me (b4 ι ρ) (sA x))
  |_=>.bad):=rfl
noncomputable def y6:PV->Option RV
 |.str x=>if x.length=1 then some (.sh (.int (x.cps.getD 0 0:Nat)))else none
 |_=>none
noncomputable def ko:PV->Option RV
 |.int i=>if i.natAbs.log2<1920 then some (.sh (.str (toString i)))else none
 |_=>none
end L2.P
namespace L2
open PySem PySem.Spec PyProof.Rows
noncomputable def Its(x:Str):It:=⟨fun i _=>i<x.cps.size,fun i H v H'=>H'=H /\ ∃ c,x.cps[i]?=some c /\ v=.str ⟨#[c]⟩,fun i _=>x.cps.size<=i⟩
theorem tP{P:Program}{w:World}{K:PySem.W.Frag}{tg:Expr}{it:Addr}{x:Str}{t:Tok}{n:String}(hn:["enumerate","zip","dict_itemiterator","dict_reverseitemiterator","odict_iterator","itertools.zip_longest","itertools.pairwise"].contains n=false)
  (W:∀ A:Around,A.handled=none->Walks P w A it [it] [it] x.cps.size (SignAt x) (fun i h=>h.IsStrIter it n x t i))
  (De:∀(A:Around) (s:Shared) (i:Nat) (Q:Option Value->Shared->Prop) (E:Value->Shared->Prop),A.handled=none->s.heap.IsStrIter it n x t i->x.cps[i]?=none->(∀ h',Heap.ExtBut it s.heap h'->Q none { s with heap:=h' })->wpAny (model P w) A (pyNext (.ref it)) Q E s)
  (Se:∀(A:Around) (i:Nat) (s:Shared) (Q:Value->Shared->Prop) (E:Value->Shared->Prop),s.heap.IsStrIter it n x t i->Q (.ref it) s->wpAny (model P w) A (pyIter (.ref it)) Q E s):Turn P w K tg (Its x) [it] it (fun i h=>h.IsStrIter it n x t i) where
 mem:=by simp
 obj:=fun i h st b hb=>by
  have e:b=it:=by simpa using hb
  subst e;obtain⟨o,e,c,d⟩:=st
  exact⟨o,e,fun v z=>by rw[d]at z;cases z⟩
 keep:=fun i h h' st k=>let ⟨o,e,r⟩:=st;⟨o,k it (by simp) o e,r⟩
 item:=by
  intro X hP hw hK hc i pins s σ H E I hf st hg;subst hP hw hK;obtain⟨f0,f1,f2,f3,f4,f5⟩:=hf it (by simp)
  refine(W X.A (I.ok.hd hc)).item i s _ _ hg st fun v h' tk hv st' kk=>?_
  obtain⟨c,u,hc1,rfl⟩:=hv
  have I1:Inv X pins σ H { s with heap:=h',toks:=tk }:=I.turned (fun b o hb e=>kk b o (by simpa using hb) e) f0 f1 f3 f4 f5
  obtain⟨o,e,cc,d⟩:=id st'
  exact⟨_,rfl,yu (s:={ s with heap:=h',toks:=tk }) e cc d hn ⟨.str ⟨#[c]⟩,H,I1,⟨u,rfl⟩,⟨rfl,c,hc1,rfl⟩,st',fun b hb=>(hf b hb).1⟩⟩
 done:=by
  intro X hP hw hK hc i pins s σ H E I hf st hg;subst hP hw hK;obtain⟨f0,f1,f2,f3,f4,f5⟩:=hf it (by simp)
  have hg':x.cps.size<=i:=hg
  exact De X.A s i _ _ (I.ok.hd hc) st (by simp;omega) fun h' eb=>⟨rfl,I.turned (t':=s.toks) (fun b o hb e=>eb b o hb e) f0 f1 f3 f4 f5⟩
 self:=fun A i s Q E st h=>Se A i s Q E st h
noncomputable def D5(tl:TE):TI:=fun σ H R=>tl σ H fun v H1=>∃ x,v=.str x /\ R (Its x) H1
theorem EZ{X:Cx}{tg:Expr}{l:Expr}{tl:TE}(hl:PE X l tl):PI X tg l (D5 tl):=by
 intro pins s σ H R I h
 refine thn (hl pins s σ H _ I h) fun v s1 ⟨y,H1,I1,r1,q1⟩=>?_
 obtain⟨x,e,q⟩:=q1;subst e;obtain⟨t,rfl⟩:=r1
 have hf:∀ b∈[s1.heap.objs.size],jk X pins H1 b:=fun b hb=>by
  have e:b=s1.heap.objs.size:=by simpa using hb
  subst e;exact I1.xC (Nat.le_refl _) (I1.hok.fresh (Nat.le_refl _))
 cases ha:x.cps.all (·<128)with
 | false=>
   exact wpAny_pyIter_wide ha ⟨s1.heap.objs.size,[s1.heap.objs.size],_,_,H1,rfl,I1.kept (t':=s1.toks) fun b o e=>Heap.get?_push_of_some _ e,
    tP (n:="str_iterator") (x:=x) (t:=t) (by decide) (fun A' hA=>Walks.strWide hA _ x t) (fun A s i Q E hA st hx hQ=>wpAny_pyNext_wide_end hA st hx hQ) (fun A i s Q E st h=>wpAny_pyIter_striter_wide st h),⟨_,Heap.get?_push_size _ rfl,rfl,rfl⟩,hf,q⟩
 | true=>
   exact wpAny_pyIter_ascii ha ⟨s1.heap.objs.size,[s1.heap.objs.size],_,_,H1,rfl,I1.kept (t':=s1.toks) fun b o e=>Heap.get?_push_of_some _ e,
    tP (n:="str_ascii_iterator") (x:=x) (t:=t) (by decide) (fun A' hA=>Walks.strAscii hA _ x t) (fun A s i Q E hA st hx hQ=>wpAny_pyNext_ascii_end hA st hx hQ) (fun A i s Q E st h=>wpAny_pyIter_striter_ascii st h),⟨_,Heap.get?_push_size _ rfl,rfl,rfl⟩,hf,q⟩
end L2
theorem L2.E.boot_ord:PySem.bootBuiltins "ord" = some (.builtin "ord"):=by decide +kernel
namespace L2.P
open PySem PySem.Spec PyProof.Rows L2 L2.E
theorem yS{X:L2.Cx}{tg l:Expr}{tl:TE}(h:QE X l tl):QI X tg l (D5 tl):=⟨EZ h.out⟩
section
variable{K:PySem.W.Frag}{cls:String->Option Addr}{W:XW}{Av G S₀ S S' H H' B B':Hp}{ρ:ag}{σ:St}{Q:VK}{F:Nat->List Addr}
theorem uk{tl te:TE}{ml me:ag->OE}{ι:List Nat}(hι:ι.Nodup)(hl:JE K cls W tl ml)(he:JE K cls (fun _ _ _ _=>False) te me):JE K cls W (oe (D5 tl) ι te) (j7 ml ι me):=by
 intro Av G S₀ ρ σ S H Q I p
 refine hl.go I p fun r v S1 H1 I1 w1 r1 p1=>?_
 have ra:=r1.rd I1.sh
 cases e:r.pv with
 | str x=>
   rw[e]at p1 ra;have hv:=gK ra;subst hv
   refine⟨x,rfl,?_⟩
   dsimp only at p1
   cases em:cf me (b4 ι ρ) (sA x)with
   |exc c fs=>rw[em]at p1;exact p1.elim
   |bad=>rw[em]at p1;exact p1.elim
   | ok ys=>
     rw[em]at p1;simp only[noX]at p1;split at p1
     . rename_i hlen
       have hcl:(sA x).length=x.cps.size:=by simp[sA]
       refine kX hι he I1 em hlen (fun k H' y g hx=>?_) (fun H' g=>by show x.cps.size<=(sA x).length;rw[hcl];exact Nat.le_refl _) fun D S' H' w nD sD ⟨us,hD,rr⟩=>p1 (.ref D) S' H' w ⟨D,us,rfl,nD,sD,hD,rr⟩
       have hk:k<x.cps.size:=by rw[<- hcl];exact(List.getElem?_eq_some_iff.mp hx).1
       refine⟨hk,?_⟩
       rintro v' H2 ⟨rfl,c,hc,rfl⟩
       refine⟨rfl,?_⟩
       have hy:y=.str ⟨#[c]⟩:=by
        unfold sA at hx;rw[List.getElem?_map]at hx
        have:x.cps.toList[k]?=some c:=by simpa using hc
        rw[this]at hx
        exact(Option.some.inj hx).symm
       subst hy;unfold Rep;rfl
     . exact p1.elim
 |_=>rw[e]at p1;exact p1.elim
theorem CW:JU K (fun xs H Q=>∃ x,xs=[.str x] /\ x.length=1 /\ Q (.int (x.cps.getD 0 0:Nat)) H) y6:=by
 intro S H x v rr Q I hx e k
 cases x with
 | str x=>
   by_cases hl:x.length=1
   . have e':y6 (.str x)=some (.sh (.int (x.cps.getD 0 0:Nat))):=if_pos hl
     rw[e']at e;cases e
     exact⟨x,by rw[gK hx],hl,k _ S H (aL.refl I) (by show Rep K S _ _;unfold Rep;rfl)⟩
   . have e':y6 (.str x)=none:=if_neg hl
     rw[e']at e;cases e
 |_=>cases e
theorem zD:JU K (fun xs H Q=>∃ i:Int,xs=[.int i] /\ i.natAbs.log2<1920 /\ Q (.str (toString i)) H) ko:=by
 intro S H x v rr Q I hx e k
 cases x with
 | int i=>
   by_cases hl:i.natAbs.log2<1920
   . have e':ko (.int i)=some (.sh (.str (toString i))):=if_pos hl
     rw[e']at e;cases e
     exact⟨i,by rw[cn hx],hl,k _ S H (aL.refl I) (by show Rep K S _ _;unfold Rep;rfl)⟩
   . have e':ko (.int i)=none:=if_neg hl
     rw[e']at e;cases e
 |_=>cases e
end
end L2.P
namespace HT
open PySem PyProof.Rows
end HT
namespace L2
open PySem PySem.Spec PyProof.Rows
end L2
namespace L2.P
open PySem PySem.Spec PyProof.Rows L2 L2.E
end L2.P
namespace HT
open PySem PyProof.Rows
open AutoSeq1 (wpAny_loadPart')
end HT
namespace L2
open PySem PySem.Spec PyProof.Rows
end L2
namespace L2.P
open PySem PySem.Spec PyProof.Rows L2 L2.E
end L2.P
namespace L2.P
open PySem
noncomputable def Gv(kvs:List (Int×PV))(a b:RV):OE:=match a.pv,b with
 |.int n,.sh d=>.ok (.sh ((kvs.lookup n).getD d))
 |_,_=>.bad
noncomputable def xD(kvs:List (Int×Int)):ag->OD:=fun _=>.ok (.di (kvs.map fun p=>(p.1,.int p.2)))
noncomputable def tT(neg:Bool)(me:ag->OE)(i:Nat)(mp:MP):ag->OE:=fun ρ=>(me ρ).bind fun r=>match r.pv with
 | .int n=>(match subAt i mp ρ with
   |some (.di kvs)=>.ok (.sh (.bl (if neg then !(kvs.lookup n).isSome else(kvs.lookup n).isSome)))
   |_=>.bad)
 |_=>.bad
noncomputable def wq(i:Nat)(mp:MP)(me:ag->OE):ag->OE:=fun ρ=>match subAt i mp ρ with
 | some (.di kvs)=>(me ρ).bind fun r=>(match r.pv with
   |.int n=>oE ((kvs.lookup n).map .sh)
   |_=>.bad)
 |_=>.bad
noncomputable def wF:PV->Option RV
 | .str x=>(match x.cps.toList with
   |[c]=>if 48<=c /\ c<=57 then some (.sh (.int ((c:Int) - 48)))else none
   |_=>none)
 |_=>none
noncomputable def cK(i:Nat)(mp:MP)(me:ag->OE):ag->OS:=fun ρ=>pY i mp ρ fun u put=>match u with
 | .ol ts=>(me ρ).bU ρ fun r=>(match r with
   |.fr ys=>if ts.length+ys.length<=lim then .nx (put (.ol (ts++ys.map .sh)))else .bad
   |.sh (.lst ys)=>if ts.length+ys.length<=lim then .nx (put (.ol (ts++ys.map .sh)))else .bad
   |_=>.bad)
 |_=>.bad
end L2.P
namespace L2
open PySem PySem.Spec PyProof.Rows
end L2
namespace L2.E
open PySem PySem.Spec PyProof.Rows L2
end L2.E
namespace L2.P
open PySem PySem.Spec PyProof.Rows L2 L2.E
end L2.P
namespace L2.E
open PySem PySem.Spec PyProof.Rows L2
section
variable{X:Cx}{o i:Expr}{td ty:TE}{pos:Pos}
theorem DP(hu:X.A.units+1<cLine)(hi:QE X i ty)(ho:QE X o td)(h1:behindInMarks .In o=false:=by first|exact uo _ (by decide) (by decide)|rfl):QT X (.Compare i [.In] [o] pos) (tB (D1 ty td)):=⟨DT (CU hu hi.out ho.out) h1⟩
theorem Bg(hu:X.A.units+1<cLine)(ho:QE X o td)(hi:QE X i ty)(hs:Dl i):QE X (.Subscript o i pos) (zQ td ty):=⟨Ao hu ho.out hi.out hs⟩
structure QPs(X:Cx)(pos:Pos)(keys:List (Option Expr))(values:List Expr)(trs:List (TE×TE)):Prop where
 out:PPs X pos keys values trs
theorem AL:QPs X pos [] [] []:=⟨Bh⟩
theorem gG{ks:List (Option Expr)}{trs:List (TE×TE)}(hk:QE X k tk)(hv:QE X v tv)(hr:QPs X pos ks vs trs):QPs X pos (some k ::ks) (v ::vs) ((tk,tv) ::trs):=⟨zG hk.out hv.out hr.out⟩
theorem BG{keys:List (Option Expr)}{values:List Expr}{trs:List (TE×TE)}(h:QPs X pos keys values trs)(hall:keys.all (·.isSome)=true:=by rfl)(hl:keys.length=values.length:=by rfl)(h0:keys≠[]:=by intro z;cases z)(h15:keys.length<=15:=by decide):QE X (.Dict keys values pos) (Ac trs):=⟨AR h.out hall hl h0 h15⟩
end
end L2.E
namespace L2.P
open PySem PySem.Spec PyProof.Rows L2 L2.E
section
variable{K:PySem.W.Frag}{cls:String->Option Addr}{W:XW}{S H:Hp}
theorem tR(kvs:List (Int×Int))(σ:St):∀(H:Hp) (R:List (V×V)->Hp->Prop),R (kvs.map fun p=>(.int p.1,.int p.2)) H->r6 (kvs.map fun p=>(tC (.int p.1),tC (.int p.2))) σ H R:=by
 induction kvs with
 |nil=>intro H R h;exact h
 |cons p kvs ih=>intro H R h;exact ih H _ h
theorem wZ(more:List (Key×V)):∀ kvs:List (Key×V),((kvs++more).map (·.1)).Nodup->kf kvs more=kvs++more:=by
 induction more with
 |nil=>intro kvs _;simp[kf]
 | cons p more ih=>
   intro kvs h
   have hn:i0 kvs p.1=none:=by
    unfold i0;rw[Option.map_eq_none_iff,List.find?_eq_none];intro q hq e
    have e':q.1=p.1:=of_decide_eq_true e
    rw[List.map_append,List.nodup_append]at h;exact h.2.2 q.1 (List.mem_map_of_mem hq) p.1 (by simp) e'
   show kf (putK kvs p.1 p.2) more=_;rw[zX _ hn,ih _ (by simpa using h)];simp
theorem D2{kvs:List (Int×Int)}(nd:(kvs.map (·.1)).Nodup)(h15:kvs.length<=15):JD K cls W (Ac (kvs.map fun p=>(tC (.int p.1),tC (.int p.2)))) (xD kvs):=by
 intro Av G S₀ ρ σ S H Q I p;intro q hq;refine tR kvs σ _ _ ⟨aY,kvs.map fun p=>(Sum.inl p.1,V.int p.2),by simp[kV],by simpa using h15,?_⟩
 rw[AH,wZ _ [] (by
  rw[List.nil_append,List.map_map]
  have:((fun x:Key×V=>x.1) ∘ fun p:Int×Int=>((Sum.inl p.1:Key),V.int p.2))=(fun k:Int=>(Sum.inl k:Key)) ∘ fun p:Int×Int=>p.1:=rfl
  rw[this,<- List.map_map]
  exact List.pairwise_map.mpr (List.Pairwise.imp (fun h z=>h (Sum.inl.inj z)) nd)),List.nil_append]
 refine p (.ref q) S _ (aL.heap I.sh hq) ⟨[q],?_,by simp,fun a ha=>?_⟩
 . unfold aX
   refine⟨q,_,rfl,aY,rfl,?_⟩
   clear nd h15 p
   induction kvs with
   |nil=>exact .nil
   |cons x kvs ih=>exact .cons ⟨rfl,by unfold Rep;rfl⟩ ih
 . have z:a=q:=by simpa using ha
   subst z
   exact⟨hq,I.sh.free hq⟩
theorem gb.look{kvs:List (Int×PV)}{us:List (Key×V)}(h:gb K S kvs us)(n:Int):match kvs.lookup n with
  |some x=>∃ v,i0 us (Sum.inl n:Key)=some v /\ Rep K S x v
  |none=>i0 us (Sum.inl n:Key)=none:=by
 induction h with
 |nil=>rfl
 | @cons p q ps qs h t ih=>
   obtain⟨h1,h2⟩:=h;obtain⟨k,x⟩:=p;obtain⟨k',v⟩:=q
   dsimp only at h1 h2
   subst h1
   by_cases hm:n=k
   . subst hm;simp[List.lookup,i0];exact h2
   . have hb:(n==k)=false:=by simpa using hm
     have hd:decide ((Sum.inl k:Key)=Sum.inl n)=false:=decide_eq_false fun z=>hm (Sum.inl.inj z).symm
     simp only[List.lookup,hb]
     have e:i0 ((Sum.inl k,v) ::qs) (Sum.inl n:Key)=i0 qs (Sum.inl n):=by
      unfold i0;rw[List.find?_cons,hd]
     rw[e];exact ih
theorem gb.BX{kvs:List (Int×PV)}{us:List (Key×V)}(h:gb K S kvs us)(n:Int):(i0 us (Sum.inl n:Key)).isSome=(kvs.lookup n).isSome:=by
 have:=h.look n
 cases q:kvs.lookup n with
 |none=>rw[q]at this;rw[this];rfl
 |some x=>rw[q]at this;obtain⟨v,e,_⟩:=this;rw[e];rfl
theorem AO{ma:ag->OE}(ha:JE K cls W ta ma)(hp:JP K cls td i mp):JE K cls W (D1 ta td) (tT false ma i mp):=by
 intro Av G S₀ ρ σ S H Q I p
 refine ha.go I p fun a v S1 H1 I1 w1 r1 p1=>?_
 have ra:=r1.rd I1.sh
 cases e:a.pv with
 | int n=>
   rw[e]at p1 ra
   dsimp only at p1
   split at p1
   . rename_i kvs es
     refine hp.sub I1 es fun w S2 H2 f w2 _ r=>?_
     unfold aX at r;obtain⟨q,us,rfl,hq,_,hd⟩:=r;have hv:=cn ra;subst hv
     refine⟨q,_,rfl,rE.k (k:=Sum.inl n) hq,?_⟩
     rw[hd.BX n];exact p1 _ S2 H2 w2 lY
   . exact p1.elim
 |_=>rw[e]at p1;exact p1.elim
theorem BB{ma:ag->OE}(hp:JP K cls td i mp)(ha:JE K cls W ta ma):JE K cls W (zQ td ta) (wq i mp ma):=by
 intro Av G S₀ ρ σ S H Q I p;unfold wq at p;split at p
 . rename_i kvs es
   refine hp.sub I es fun w S2 H2 f w2 I2 r=>?_
   refine ha.go I2 (p.back w2) fun a v S1 H1 I1 w1 r1 p1=>?_
   have ra:=r1.rd I1.sh
   have r':=r.mono w1.s fun a _ o z=>w1.g _ _ z
   unfold aX at r';obtain⟨q,us,rfl,hq,_,hd⟩:=r'
   cases e:a.pv with
   | int n=>
     rw[e]at p1 ra
     dsimp only at p1
     have hv:=cn ra;subst hv;have hl:=hd.look n
     cases el:kvs.lookup n with
     |none=>rw[el]at p1;exact p1.elim
     | some x=>
       rw[el]at p1 hl;obtain⟨u,eu,ru⟩:=hl
       refine⟨q,u,rfl,by have:=rE.k (k:=(Sum.inl n:Key)) hq;rw[eu]at this;exact this,p1 u S1 H1 (aL.refl I1.sh) ru⟩
   |_=>rw[e]at p1;exact p1.elim
 . exact p.elim
end
end L2.P
namespace L2.E
open PySem PySem.Spec PyProof.Rows L2
end L2.E
namespace L2.P
open PySem PySem.Spec PyProof.Rows L2 L2.E
end L2.P
namespace L2.E
open PySem PySem.Spec PyProof.Rows L2
theorem x8{X:Cx}:iC X (.type "int") (fun xs H Q=>∃ x n,xs=[.str x] /\ PySem.intText? x=some n /\ x.length<=640 /\ Q (.int n) H):=by
 intro pins s σ H xs us Q I r h;obtain⟨x,n,rfl,h1,h2,q⟩:=h;obtain⟨u,rfl,t,rfl⟩:=vals1 r;exact PySem.W.KIN.call_text h1 h2 ⟨.int n,H,I.tok _,⟨_,rfl⟩,q⟩
theorem vB{x:Str}{c:Nat}(h:x.cps.toList=[c])(h1:48<=c)(h2:c<=57):PySem.intText? x=some ((c:Int) - 48) /\ x.length<=640:=by
 have e:x=⟨#[c]⟩:=by
  cases x with
  | mk a=>cases a with
    |mk l=>simp at h;subst h;rfl
 subst e
 refine⟨?_,by show 1<=640;decide⟩
 have hc:c=48 \/ c=49 \/ c=50 \/ c=51 \/ c=52 \/ c=53 \/ c=54 \/ c=55 \/ c=56 \/ c=57:=by omega
 rcases hc with rfl|rfl|rfl|rfl|rfl|rfl|rfl|rfl|rfl|rfl<;>decide +kernel
end L2.E
namespace L2.P
open PySem PySem.Spec PyProof.Rows L2 L2.E
theorem Bv{K:PySem.W.Frag}:JU K (fun xs H Q=>∃ x n,xs=[.str x] /\ PySem.intText? x=some n /\ x.length<=640 /\ Q (.int n) H) wF:=by
 intro S H x v rr Q sh r e k
 cases x with
 | str z=>
   have hv:v=.str z:=by have r':Rep K S (.str z) v:=r;unfold Rep at r';exact r'
   subst hv;unfold wF at e
   dsimp only at e
   split at e
   . rename_i c hc;split at e
     . rename_i h;cases e;obtain⟨h1,h2⟩:=vB hc h.1 h.2
       exact⟨z,_,rfl,h1,h2,k _ S H (aL.refl sh) (by show Rep K S _ _;unfold Rep;rfl)⟩
     . cases e
   . cases e
 |_=>cases e
end L2.P
namespace L2.E
open PySem PySem.Spec PyProof.Rows L2
theorem rP(l:Addr)(items:Array Value)(n:Nat)(b:Addr)(items2:Array Value)(n2:Nat)(dd2:Option Addr)(sl2:Array (Option Value))(hc0:¬(!items.isEmpty&&Builtin.List.listTooLong (items.size+items2.size))=true)(hc1:items.size<=sizeLine)(hs2:items.size+items2.size<=sizeLine+1):
  Meets (Builtin.«list.extend» ⟨[.ref l,.ref b],[]⟩) (fun _ R s=>s.heap.get? l=some { cls:=.type "list",dict:=none,data:=.seq items n,slots:=#[] } /\ s.heap.get? b=some { cls:=.type "list",dict:=dd2,data:=.seq items2 n2,slots:=sl2 } /\ R (.ok (.ret Value.none)) { s with heap:=s.heap.update l (Obj.mapSeq fun x=>x++items2),toks:=s.toks }):=
 .of_wp fun prog w A R s h=>by
  obtain⟨hp,g,d,tk,os⟩:=s;obtain⟨hl,hb,h⟩:=h;have f1:=AutoSeq1.idx_int;have f2:=AutoSeq1.sub_tuple_tuple;have f3:=AutoSeq1.sub_list_list;have f4:=AutoSeq1.sub_tuple_list;have f5:=AutoSeq1.sub_list_tuple
  have hz':(items++items2).size<=sizeLine+1:=by rw[Array.size_append];exact hs2
  wp_walk using (wpAny_updateSeq hl rfl (hz:=hc1) (_hz':=hz')),wpAny_loadPart' hl,wpAny_loadPart' hb;exact⟨_,rfl,h⟩
noncomputable def tj(K:PySem.W.Frag):V->List V->Hp->VK->Prop:=fun x vs H Q=>∃ l b xs zs,x=.ref l /\ vs=[.ref b] /\ H l=some (.lst xs) /\ SqL K H b zs /\ xs.length+zs.length<=sizeLine /\ Q .non (upd H l (.lst (xs++zs)))
theorem dW{X:Cx}:MtM X "list.extend" (tj X.K):=by
 intro pins s σ H x vs v us Q I rx rv h;obtain⟨l,b,xs,zs,rfl,rfl,hH,hB,hz,q⟩:=h;cases rx;obtain⟨u,rfl,ru⟩:=rv.one;cases ru;obtain⟨z,its,n,r,hl,e⟩:=I.Eg hH;obtain⟨its2,r2,pl2,z2⟩:=I.list hB;obtain⟨⟨cls2,dd2,data2,sl2⟩,ho2,hc2,n2,hd2⟩:=pl2.isList;simp only at hc2 hd2;subst hc2 hd2;have hl2:=r2.length
 have hsz:its.toArray.size+its2.toArray.size<=sizeLine:=by rw[List.size_toArray,List.size_toArray];omega
 have hlong:¬ (!its.toArray.isEmpty&&Builtin.List.listTooLong (its.toArray.size+its2.toArray.size))=true:=by
  rw[zh hsz,Bool.and_false];exact Bool.false_ne_true
 refine call_meets F.slot_list_extend ⟨_,e,rfl⟩ F.entry_list_extend (F.args_list_extend_2 _ _)
  (rP l its.toArray n b its2.toArray n2 dd2 sl2 hlong (by rw[List.size_toArray];omega) (by omega)) ⟨e,ho2,?_⟩
 refine⟨.non,_,I.Du (its':=its++its2) hH e (by simp) (r.append r2) ?_,rfl,q⟩
 rw[List.length_append];omega
end L2.E
namespace L2.P
open PySem PySem.Spec PyProof.Rows L2 L2.E
section
variable{K:PySem.W.Frag}{cls:String->Option Addr}{W:XW}{Av G S₀ S S' H H' B B':Hp}{ρ:ag}{σ:St}{Q:VK}{F:Nat->List Addr}
theorem ee{i:Nat}{te tx:TE}{mp:MP}{me:ag->OE}(hp:JP K cls te i mp)(hx:JE K cls W tx me):JS K cls W (pG (tBM K "list" (tj K) te (fJ tx j1))) (cK i mp me):=by
 intro Av G S₀ ρ σ S H D I p;obtain⟨io,t,π,u,hi,e0,e1,p⟩:=mX p;obtain⟨v0,hv⟩:=I.val hi
 cases u with
 |sh x=>exact p.elim
 |ob c ks us=>exact p.elim
 |di x=>exact p.elim
 |dt x=>exact p.elim
 | ol ts=>
   dsimp only at p
   refine hp.at I hi hv e0 e1 fun w S1 H1 w1 I1 wk=>?_
   have p1:=p.back w1.s;obtain⟨F,J1⟩:=id I1;obtain⟨q,vs,ff,rest,wk',hq,hl,rs,_,nd,c⟩:=J1.o4 hi hv e1;have:=wk.inj wk';subst this
   refine⟨.inl ⟨rfl,_,SqL.new hq⟩,?_⟩
   refine hx.goS I1 p1 fun r v S2 H2 I2 w2 r2 p2=>?_
   have ndf:ff.Nodup:=(List.nodup_cons.mp (List.nodup_append.mp nd).1).2
   cases r with
   |al ys=>exact p2.elim
   | sh x=>
     cases x with
     | lst ys=>
       dsimp only at p2
       split at p2
       . rename_i hlt
         have r3:Rep K S2 (.lst ys) v:=r2
         unfold Rep at r3;obtain⟨b,us,rfl,k3,k4⟩:=r3
         refine⟨q,b,vs,us,rfl,rfl,w2.g _ _ hq,ay.seq w2.sh k3,by rw[hl,k4.length];exact hlt,?_⟩
         obtain⟨g,J3,_⟩:=c S2 H2 (ts++ys.map .sh) (vs++us) (ff++[]) w2 ((rs.mono w2.s fun a _ o h=>w2.g _ _ h).append (.shs k4)) (by rw[List.append_nil];exact ndf) fun a ha=>.inl (by simpa using ha)
         exact p2 σ S2 _ ⟨_,J3⟩ (ay.refl _)
       . exact p2.elim
     |_=>exact p2.elim
   | fr ys=>
     dsimp only at p2
     split at p2
     . rename_i hlt;obtain⟨b,us,rfl,k1,k2,k3,k4⟩:=r2
       refine⟨q,b,vs,us,rfl,rfl,w2.g _ _ hq,SqL.new k3,by rw[hl,k4.length];exact hlt,?_⟩
       obtain⟨g,J3,_⟩:=c S2 H2 (ts++ys.map .sh) (vs++us) (ff++[]) w2 ((rs.mono w2.s fun a _ o h=>w2.g _ _ h).append (.shs k4)) (by rw[List.append_nil];exact ndf) fun a ha=>.inl (by simpa using ha)
       exact p2 σ S2 _ ⟨_,J3⟩ (ay.refl _)
     . exact p2.elim
end
end L2.P
namespace L2.E
open PySem PySem.Spec PyProof.Rows L2
theorem gV{N P:List Str}{sc:Scope}(a:sc.kind=.function:=by rfl)(b:sc.isCoroutine=false:=by rfl)(c:sc.isGenerator=false:=by rfl)(d:N.Nodup:=by decide +kernel)(e:N.take P.length=P:=by rfl)
  (f:∀ x∈P,sc.names.lookup x=some .local \/ sc.names.lookup x=some .cell:=by decide +kernel) (g:∀ y∈sc.names,y.2≠.free:=by decide +kernel):bx N P sc:=⟨a,b,c,d,e,f,g⟩
structure Ent(K:PySem.W.Frag)(mg:Str->Option Value)(x:Str)(st:Stmt)(f:Addr)(d:FuncData)(ps:List Str):Prop where
 F:Fun K x x st f d
 m:mg x=some (.ref f)
 b:Binds K d ps []
structure Fd(K:PySem.W.Frag)(x:Str)(st:Stmt)(f:Addr)(d:FuncData):Prop where
 a:PySem.W.nsIn K mainGlobals x=some (some (.ref f))
 F:Fun K x x st f d
section
variable{K:PySem.W.Frag}{mg:Str->Option Value}{h:Heap}{x:Str}{st:Stmt}{f:Addr}{d:FuncData}
theorem dH{oc:Value}{od an:Option Addr}{osl:Array (Option Value)}{kV doc pm cdv ct:Value}(a:PySem.W.nsIn K mainGlobals x=some (some (.ref f)))
  (l:K.lookup f=some ⟨oc,od,.func (PySem.W.fnOf x x (fm st) (cZ st) (aG st) .none kV doc pm an cdv ct),osl⟩) (c:PySem.W.codeIn K cdv x=true) (k:PySem.W.keepIn K (.ref f)=true):
  Fd K x st f (PySem.W.fnOf x x (fm st) (cZ st) (aG st) .none kV doc pm an cdv ct):=⟨a,ET l c k⟩
theorem Fd.e{ps:List Str}(H:Fd K x st f d)(X:K.In h)(G:h.Ns mainGlobals mg)
  (hb:∀(kV doc pm:Value) (an:Option Addr) (cdv ct:Value) (us:List Value),us.length=ps.length->bindArgs (PySem.W.fnOf x x (fm st) (cZ st) (aG st) .none kV doc pm an cdv ct) ⟨us,[]⟩=pure (ps.zip us)):Ent K mg x st f d ps:=⟨H.F,PySem.W.mg_of X G H.a,H.F.binds hb⟩
theorem Fd.e1{a:Str}(H:Fd K x st f d)(X:K.In h)(G:h.Ns mainGlobals mg)
  (hb:∀(kV doc pm:Value) (an:Option Addr) (cdv ct i:Value),bindArgs (PySem.W.fnOf x x (fm st) (cZ st) (aG st) .none kV doc pm an cdv ct) ⟨[i],[]⟩=pure [(a,i)]:=by intros;rfl):Ent K mg x st f d [a]:=
 H.e X G fun p q r s t u us hl=>match us,hl with|[_],_=>hb p q r s t u _
theorem Fd.e2{a b:Str}(H:Fd K x st f d)(X:K.In h)(G:h.Ns mainGlobals mg)
  (hb:∀(kV doc pm:Value) (an:Option Addr) (cdv ct i j:Value),bindArgs (PySem.W.fnOf x x (fm st) (cZ st) (aG st) .none kV doc pm an cdv ct) ⟨[i,j],[]⟩=pure [(a,i),(b,j)]:=by intros;rfl):Ent K mg x st f d [a,b]:=
 H.e X G fun p q r s t u us hl=>match us,hl with|[_,_],_=>hb p q r s t u _ _
theorem Fd.e3{a b c:Str}(H:Fd K x st f d)(X:K.In h)(G:h.Ns mainGlobals mg)
  (hb:∀(kV doc pm:Value) (an:Option Addr) (cdv ct i j k:Value),bindArgs (PySem.W.fnOf x x (fm st) (cZ st) (aG st) .none kV doc pm an cdv ct) ⟨[i,j,k],[]⟩=pure [(a,i),(b,j),(c,k)]:=by intros;rfl):Ent K mg x st f d [a,b,c]:=
 H.e X G fun p q r s t u us hl=>match us,hl with|[_,_,_],_=>hb p q r s t u _ _ _
theorem Fd.e5{a b c e g:Str}(H:Fd K x st f d)(X:K.In h)(G:h.Ns mainGlobals mg)
  (hb:∀(kV doc pm:Value) (an:Option Addr) (cdv ct i j k l m:Value),bindArgs (PySem.W.fnOf x x (fm st) (cZ st) (aG st) .none kV doc pm an cdv ct) ⟨[i,j,k,l,m],[]⟩=pure [(a,i),(b,j),(c,k),(e,l),(g,m)]:=by intros;rfl):Ent K mg x st f d [a,b,c,e,g]:=
 H.e X G fun p q r s t u us hl=>match us,hl with|[_,_,_,_,_],_=>hb p q r s t u _ _ _ _ _
end
theorem qz{X:Cx}{pos:Pos}(i:Nat)(h7:X.N.Nodup)(h10:QE X e te)(h8:X.N[i]?=some x:=by rfl)(h9:Loc X.env.scope x:=by first|exact Or.inl rfl|exact Or.inr rfl)
  (h11:autoParam (swapsWith e (some (.Name x pos')) pos.line X.env=pure false) L2.qau._auto_1) (h12:autoParam (X.fn x=true \/ X.env.scope.names.lookup x=some .local) L2.qau._auto_1):QS X (.Assign [.Name x pos'] e pos) (nT te (gH i)):=CY h7 h8 h9 h10 h11 h12
theorem qx{X:Cx}{j k:Nat}{f:Addr}{fd:FuncData}{ps:List Str}{sp:Sp}{W:XW}{x:Str}{st:Stmt}{p pos:Pos}{e:Expr}{es:List Expr}{t:TA}(h15:cT X.prog X.w X.K X.mg X.base (CXE X.prog X.w) j f fd ps sp)(E:Ent X.K X.mg x st f fd ps)(h16:hJ k X.A)(h22:Thr X W)(h23:QA X (e ::es) t)
  (hj:j<=k:=by decide) (h17:Gl X x:=by rfl) (h24:autoParam ((x==Str.ofString "__debug__")=false) L2.qau._auto_1) (h25:autoParam (starEach (e ::es) X.env=(false,eval e X.env) ::starEach es X.env) L2.qau._auto_1) (h26:autoParam (((backTo pos (starEach es X.env)).any fun x=>x.1)=false) L2.qau._auto_1):
  QE X (.Call (.Name x p) (e ::es) [] pos) (pZ sp [] W t):=zI (h15.mono hj) h16 h17 E.m E.F.kp E.b .nil h22 h23 h24 h25 h26
theorem nC{X:Cx}(h11:X.mg "len" = none)(h:QE X e te)(h10:Gl X "len":=by rfl)(hs:isStar e=false:=by rfl)(h16:autoParam (starEach [e] X.env=(false,eval e X.env) ::starEach [] X.env) L2.qau._auto_1)(h17:autoParam (((backTo pos (starEach [] X.env)).any fun x=>x.1)=false) L2.qau._auto_1):
  QE X (.Call (.Name "len" p) [e] [] pos) (tCB (fun xs H Q=>∃ p ys,xs=[.ref p] /\ (SqL X.K H p ys \/ SqT X.K H p ys) /\ Q (.int ys.length) H) (fJ te j1)):=ib sa h10 h11 boot_len (af h av hs) (by decide) (by decide) h16 h17
theorem qi(h7:IxR X r)(h8:QE X a ta)(h9:QE X b tb)(h10:rH b:=by exact fun _ _=>rfl):QE X (.Subscript a b pos) (tOp r ta tb):=F6 h7 h8 h9 h10
theorem cQ(h8:OpR X (compareOp op) r)(h9:QE X a ta)(h10:QE X b tb)(h11:behindInMarks op b=false:=by exact fD _):QT X (.Compare a [op] [b] pos) (qS (tOp r ta tb)):=iK h8 h9 h10 h11
theorem qap{X:Cx}{apos cpos pos:Pos}{r:V->List V->Hp->VK->Prop}(h15:MtR X "list.append" r)(h16:QE X o to)(h:QE X e te)(hs:isStar e=false:=by rfl)
  (h18:autoParam (attributeBase o "append" X.env (eval o X.env)=eval o X.env) L2.qau._auto_1) (h19:autoParam (((((backTo cpos (starEach [e] X.env)).all fun x=>!x.1)&&(backToKw cpos (keywordEach [] X.env)).all fun x=>x.1.isSome)&&decide (([e].length+([]:List Keyword).length+if([]:List Keyword).isEmpty=true then 0 else 1)<30))=true) L2.qau._auto_1)
  (h20:autoParam ((apos.endLine==cpos.line)=true) L2.qau._auto_1) (h21:autoParam (starEach [e] X.env=(false,eval e X.env) ::starEach [] X.env) L2.qau._auto_1) (h22:autoParam (((backTo cpos (starEach [] X.env)).any fun x=>x.1)=false) L2.qau._auto_1) (h5:autoParam (swapsWith (.Call (.Attribute o "append" apos) [e] [] cpos) none pos.line X.env=pure false) L2.qau._auto_1):
  QS X (.Expr (.Call (.Attribute o "append" apos) [e] [] cpos) pos) (pG (tBM X.K "list" r to (fJ te j1))):=wQ (CQ PySem.F.plainAttrs_list PySem.F.slot_list_append PySem.F.type_list_append h15 h16 (af h av hs) h18 h19 h20 h21 h22) h5
theorem qex{X:Cx}{apos cpos pos:Pos}{r:V->List V->Hp->VK->Prop}(h15:MtR X "list.extend" r)(h16:QE X o to)(h:QE X e te)(hs:isStar e=false:=by rfl)
  (h18:autoParam (attributeBase o "extend" X.env (eval o X.env)=eval o X.env) L2.qau._auto_1) (h19:autoParam (((((backTo cpos (starEach [e] X.env)).all fun x=>!x.1)&&(backToKw cpos (keywordEach [] X.env)).all fun x=>x.1.isSome)&&decide (([e].length+([]:List Keyword).length+if([]:List Keyword).isEmpty=true then 0 else 1)<30))=true) L2.qau._auto_1)
  (h20:autoParam ((apos.endLine==cpos.line)=true) L2.qau._auto_1) (h21:autoParam (starEach [e] X.env=(false,eval e X.env) ::starEach [] X.env) L2.qau._auto_1) (h22:autoParam (((backTo cpos (starEach [] X.env)).any fun x=>x.1)=false) L2.qau._auto_1) (h5:autoParam (swapsWith (.Call (.Attribute o "extend" apos) [e] [] cpos) none pos.line X.env=pure false) L2.qau._auto_1):
  QS X (.Expr (.Call (.Attribute o "extend" apos) [e] [] cpos) pos) (pG (tBM X.K "list" r to (fJ te j1))):=wQ (CQ PySem.F.plainAttrs_list PySem.F.slot_list_extend PySem.F.type_list_extend h15 h16 (af h av hs) h18 h19 h20 h21 h22) h5
end L2.E
namespace L2.P
open PySem PySem.Spec PyProof.Rows L2 L2.E
theorem fX{K:PySem.W.Frag}{cls:String->Option Addr}{mk:ag->OE}(h:JP K cls te i mp)(k:JE K cls (fun _ _ _ _=>False) tk mk):JP K cls (tOp (Bt K) te tk) i (pIx i mp mk):=FJ h k
end L2.P
namespace L2.P
open PySem
theorem OV.get_nil(t:OV):t.get []=some t:=by unfold OV.get;rfl
theorem OV.gS(t u:OV):t.put [] u=u:=by unfold OV.put;rfl
theorem OV.mI{ts:List OV}{j:Nat}{u:OV}(h:ts[j]?=some u)(π:List Stp):(OV.ol ts).get (.ix j ::π)=u.get π:=by
 rw[OV.get];simp[OV.at1,h]
theorem OV.vt{ts:List OV}{j:Nat}{u x:OV}(h:ts[j]?=some u)(π:List Stp):(OV.ol ts).put (.ix j ::π) x=.ol (ts.set j (u.put π x)):=by
 rw[OV.put];simp[OV.at1,h,OV.gY]
theorem aN{ρ:ag}{i:Nat}{s:Sl}{t:OV}(h:ρ[i]?=some (some s))(hs:slT s=some t):eS i ρ=some t:=by
 unfold eS;rw[h];exact hs
theorem gZ{ρ:ag}{i j:Nat}{ts:List OV}{mk:ag->OE}{r:RV}{k:Int}(h:eS i ρ=some (.ol ts))(hk:mk ρ=.ok r)(hr:r.pv=.int k)(hj:ixP ts.length k=some j):pIx i aB mk ρ=some [.ix j]:=by
 unfold pIx;rw[h];simp[aB,OV.get_nil,hk,hr,hj]
theorem sR{ρ:ag}{i j j2:Nat}{ts us:List OV}{mp:MP}{mk:ag->OE}{r:RV}{k:Int}(h:eS i ρ=some (.ol ts))(hp:mp ρ=some [.ix j])(hu:ts[j]?=some (.ol us))(hk:mk ρ=.ok r)(hr:r.pv=.int k)(hj:ixP us.length k=some j2):pIx i mp mk ρ=some [.ix j,.ix j2]:=by
 unfold pIx;rw[h,hp];simp[OV.mI hu,OV.get_nil,hk,hr,hj]
theorem subAt_one{ρ:ag}{i j:Nat}{ts:List OV}{mp:MP}{u:OV}(h:eS i ρ=some (.ol ts))(hp:mp ρ=some [.ix j])(hu:ts[j]?=some u):subAt i mp ρ=some u:=by
 unfold subAt;rw[h,hp];simp[OV.mI hu,OV.get_nil]
theorem n5{ρ:ag}{i j j2:Nat}{ts us:List OV}{mp:MP}{u:OV}(h:eS i ρ=some (.ol ts))(hp:mp ρ=some [.ix j,.ix j2])(hv:ts[j]?=some (.ol us))(hu:us[j2]?=some u):subAt i mp ρ=some u:=by
 unfold subAt;rw[h,hp];simp[OV.mI hv,OV.mI hu,OV.get_nil]
theorem eO{ρ:ag}{i:Nat}{t:OV}(h:eS i ρ=some t):subAt i aB ρ=some t:=by
 unfold subAt;rw[h];simp[aB,OV.get_nil]
theorem jI{ρ:ag}{i:Nat}{mp:MP}{x:PV}(h:subAt i mp ρ=some (.sh x)):cj i mp ρ=.ok (.sh x):=by unfold cj;rw[h]
theorem ql{ρ:ag}{i:Nat}{mp:MP}{ts:List OV}(h:subAt i mp ρ=some (.ol ts)):dy i mp ρ=.ok (.sh (.int ts.length)):=by unfold dy;rw[h]
theorem o9{ρ:ag}{i:Nat}{mp:MP}{ts:List OV}(h:subAt i mp ρ=some (.ol ts)):cp i mp ρ=.ok (!ts.isEmpty):=by unfold cp;rw[h]
theorem A4{ρ:ag}{i:Nat}{io:Bool}{ts:List OV}{x:OV}(h:ρ[i]?=some (some (.tr io (.ol (ts++[x]))))):qG i aB ρ=.ok (ρ.set i (some (.tr io (.ol ts)))) (slO x):=by
 unfold qG;rw[h];simp[aB,OV.get_nil,OV.gS]
theorem oX{ρ:ag}{i:Nat}{io:Bool}{ts:List OV}{x:OV}{md:ag->OD}(h:ρ[i]?=some (some (.tr io (.ol ts))))(hd:md ρ=.ok x)(hl:ts.length<lim):br i aB md ρ=.nx (ρ.set i (some (.tr io (.ol (ts++[x]))))):=by
 unfold br pY;rw[h];simp only[aB,OV.get_nil,hd,hl,if_true,OV.gS]
theorem wt{ρ:ag}{i j j2:Nat}{io:Bool}{ts us xs:List OV}{x:OV}{mp:MP}{md:ag->OD}(h:ρ[i]?=some (some (.tr io (.ol ts))))(hp:mp ρ=some [.ix j,.ix j2])(hv:ts[j]?=some (.ol us))(hu:us[j2]?=some (.ol xs))(hd:md ρ=.ok x)(hl:xs.length<lim):
  br i mp md ρ=.nx (ρ.set i (some (.tr io (.ol (ts.set j (.ol (us.set j2 (.ol (xs++[x]))))))))):=by
 unfold br pY;rw[h,hp];simp only[OV.mI hv,OV.mI hu,OV.get_nil,hd,hl,if_true,OV.vt hv,OV.vt hu,OV.gS]
theorem oY{ρ:ag}{i j j2:Nat}{io:Bool}{ts us:List OV}{x:OV}{mp:MP}{mk:ag->OE}{md:ag->OD}{r:RV}{k:Int}(h:ρ[i]?=some (some (.tr io (.ol ts))))(hp:mp ρ=some [.ix j])(hv:ts[j]?=some (.ol us))(hk:mk ρ=.ok r)(hr:r.pv=.int k)(hj:ixP us.length k=some j2)(hd:md ρ=.ok x):
  kD i mp mk md ρ=.nx (ρ.set i (some (.tr io (.ol (ts.set j (.ol (us.set j2 x))))))):=by
 unfold kD pY;rw[hd];dsimp only;rw[h,hp];simp only[OV.mI hv,OV.get_nil,hk,cN,hr,hj,OV.vt hv,OV.gS]
theorem zU{ρ:ag}{i:Nat}{io:Bool}{ts:List OV}{ys:List PV}{me:ag->OE}(h:ρ[i]?=some (some (.tr io (.ol ts))))(he:me ρ=.ok (.fr ys) \/ me ρ=.ok (.sh (.lst ys)))(hl:ts.length+ys.length<=lim):cK i aB me ρ=.nx (ρ.set i (some (.tr io (.ol (ts++ys.map .sh))))):=by
 unfold cK pY;rw[h]
 rcases he with he|he<;>simp only[aB,OV.get_nil,he,cN,hl,if_true,OV.gS]
theorem aE{m n:ag->OS}{ρ ρ':ag}(h:m ρ=.nx ρ'):aD m n ρ=n ρ':=by unfold aD;rw[h];rfl
theorem EH{m n:ag->OS}{ρ ρ':ag}{v:RV}(h:m ρ=.rt ρ' v):aD m n ρ=.rt ρ' v:=by unfold aD;rw[h];rfl
theorem mJ(ρ:ag):bA ρ=.nx ρ:=rfl
theorem oD{c:ag->OT}{a b:ag->OS}{ρ:ag}(h:c ρ=.ok true):bz c a b ρ=a ρ:=by unfold bz;rw[h];rfl
theorem qt{c:ag->OT}{a b:ag->OS}{ρ:ag}(h:c ρ=.ok false):bz c a b ρ=b ρ:=by unfold bz;rw[h];rfl
theorem sk{c:ag->OT}{a n:ag->OS}{ρ:ag}(h:c ρ=.ok false):aD (bz c a bA) n ρ=n ρ:=aE (Eq.trans (qt h) (mJ _))
theorem st{c:ag->OT}{a b n:ag->OS}{ρ ρ':ag}{r:RV}(h:c ρ=.ok true)(k:a ρ=.rt ρ' r):aD (bz c a b) n ρ=.rt ρ' r:=EH (Eq.trans (oD h) k)
theorem ky{X:OS}{ρ:ag}{x:PV}(h:X=.rt ρ (.sh x)):fin X=.ok (.sh x):=by rw[h];rfl
end L2.P
namespace L2.E
open PySem PySem.Spec PyProof.Rows L2
end L2.E
namespace L2.P
open PySem PySem.Spec PyProof.Rows L2 L2.E
end L2.P
namespace L2.E
open PySem PySem.Spec PyProof.Rows L2
end L2.E
namespace L2.P
open PySem PySem.Spec PyProof.Rows L2 L2.E
end L2.P
namespace L2.E
open PySem PySem.Spec PyProof.Rows L2
end L2.E
namespace L2.P
open PySem PySem.Spec PyProof.Rows L2 L2.E
end L2.P
namespace L2.P
open PySem PySem.Spec PyProof.Rows L2 L2.E PySem.SeqAt
end L2.P
namespace L2.P
open PySem
noncomputable def putD(kvs:List (Int×PV))(n:Int)(x:PV):List (Int×PV):=if(kvs.any fun p=>decide (p.1=n))=true then kvs.map fun p=>if p.1=n then(p.1,x)else p else kvs++[(n,x)]
noncomputable def lT(i:Nat)(mp:MP)(mk mv:ag->OE):ag->OS:=fun ρ=>(mv ρ).bU ρ fun r=>match r with
 | .sh x=>pY i mp ρ fun u put=>(match u with
   | .di kvs=>(mk ρ).bU ρ fun k=>(match k.pv with
     |.int n=>if kvs.length<lim then .nx (put (.di (putD kvs n x)))else .bad
     |_=>.bad)
   |_=>.bad)
 |_=>.bad
noncomputable def ins(n:Int):List Int->List Int
 |[]=>[n]
 |m ::ms=>if n<=m then n ::m ::ms else m ::ins n ms
noncomputable def qK:List Int->List Int
 |[]=>[]
 |n ::ns=>ins n (qK ns)
theorem qb(n:Int):∀ l:List Int,(ins n l).Perm (n ::l)
 |[]=>.refl _
 | m ::ms=>by
   unfold ins;split
   . exact .refl _
   . exact((qb n ms).cons m).trans (.swap n m ms)
theorem mF:∀ l:List Int,(qK l).Perm l
 |[]=>.refl _
 |n ::ns=>(qb n _).trans ((mF ns).cons n)
theorem pW(n:Int):∀ l:List Int,l.Pairwise (·<=·)->(ins n l).Pairwise (·<=·)
 |[],_=>by simp[ins]
 | m ::ms,h=>by
   unfold ins;have h1:=List.pairwise_cons.mp h;split
   . rename_i hle;refine List.pairwise_cons.mpr ⟨fun a ha=>?_,h⟩
     rcases List.mem_cons.mp ha with z|z
     . rw[z];exact hle
     . exact Int.le_trans hle (h1.1 a z)
   . rename_i hle;refine List.pairwise_cons.mpr ⟨fun a ha=>?_,pW n ms h1.2⟩
     rcases List.mem_cons.mp ((qb n ms).mem_iff.mp ha)with z|z
     . rw[z];omega
     . exact h1.1 a z
theorem jD:∀ l:List Int,(qK l).Pairwise (·<=·)
 |[]=>.nil
 |n ::ns=>pW n _ (jD ns)
theorem rh{a b:List Int}(hp:a.Perm b)(ha:a.Pairwise (·<=·))(hb:b.Pairwise (·<=·)):a=b:=hp.eq_of_pairwise (fun x y _ _ h1 h2=>Int.le_antisymm h1 h2) ha hb
noncomputable def lg(i:Nat)(mp:MP):ag->OE:=fun ρ=>match subAt i mp ρ with
 |some (.di kvs)=>if kvs.length<64 then .ok (.fr ((qK (kvs.map (·.1))).map .int))else .bad
 |_=>.bad
end L2.P
namespace L2
open PySem PySem.Spec PyProof.Rows PySem.W
section
variable{prog:Program}{w:World}{A:Around}{E:Value->Shared->Prop}{s:Shared}{κ:Type}[DecidableEq κ]{knd:KeyKind prog w κ}{d:Addr}{kvs:List (κ×Value)}{ep:Nat}
theorem rL{R:List Value->Shared->Prop}(hh:A.handled=none)(hm:s.heap.DictAt knd d kvs ep)(lo:(d==sysModules)=false)(hn:kvs.length<=sizeLine)
  (h:∀(h':Heap) (tk:Nat) (vs:List Value),(∀ b o,s.heap.get? b=some o->h'.get? b=some o)->s.heap.objs.size<h'.objs.size->vs.length=kvs.length->(∀(j:Nat) (v:Value),vs[j]?=some v->∃ k x,kvs[j]?=some (k,x) /\ knd.is k v=true)->R vs { s with heap:=h',toks:=tk }):
  wpAny (model prog w) A (collect (.ref d)) R E s:=by
 have hd:d<s.heap.objs.size:=hm.lt_size
 unfold collect;refine wpAny_bind (wpAny_runValue (codeAny_builtin entry_proto_collect' ?_));rw[Around.under_plainId PySem.F.plain_proto_collect _];show wpAny _ A.in1 (newList [] >>= fun l=>again (.builtin "list.__iadd__" ⟨[l,.ref d],[]⟩)) _ _ s;refine wpAny_bind (wpAny_newObj_type ?_);refine wpAny_pure ⟨plainId_quiet PySem.F.plain_list_iadd _,codeAny_builtin entry_list_iadd' ?_⟩;rw[Around.under_plainId PySem.F.plain_list_iadd _]
 have hS₁:(s.heap.push { cls:=.type "list",data:=.seq ([]:List Value).toArray }).get? s.heap.objs.size=some { cls:=.type "list",data:=.seq #[] }:=Heap.get?_push_size _ rfl
 show wpAny _ A.in1 (Builtin.List.listExtendWith (.ref s.heap.objs.size) (.ref d) (.ref s.heap.objs.size)) _ _ _
 have key:=kdl_extend (A:=A) (s:={ s with heap:=s.heap.push { cls:=.type "list",data:=.seq ([]:List Value).toArray } }) (kdl_dict (knd:=knd) (kvs:=kvs) (ep:=ep) lo)
  (R:=fun (q:Result) (s':Shared)=>∃(h':Heap) (tk:Nat) (acc':Array Value) (c':Nat),q=.ok (.ret (.ref s.heap.objs.size)) /\ s'={ s with heap:=h',toks:=tk } /\
    (∀ b o,s.heap.get? b=some o->h'.get? b=some o) /\ h'.get? s.heap.objs.size=some { cls:=.type "list",dict:=none,data:=.seq acc' c',slots:=#[] } /\ ItemsOf (fun i v=>∃ k x,kvs[i]?=some (k,x) /\ knd.is k v=true) acc' kvs.length)
  hh (hm.push _) s.heap.objs.size (Nat.ne_of_gt hd) (Nat.ne_of_gt hd) (.ref s.heap.objs.size) 0 hS₁
  (fun h' tk acc' c' hk hS' hacc=>⟨h',tk,acc',c',rfl,rfl,fun b o e=>hk b o (Nat.ne_of_lt (Heap.lt_size e)) (Heap.get?_push_of_some _ e),hS',hacc⟩) hn
 have fin:∀(h':Heap) (tk:Nat) (acc':Array Value) (c':Nat),(∀ b o,s.heap.get? b=some o->h'.get? b=some o)->h'.get? s.heap.objs.size=some { cls:=.type "list",dict:=none,data:=.seq acc' c',slots:=#[] }->ItemsOf (fun i v=>∃ k x,kvs[i]?=some (k,x) /\ knd.is k v=true) acc' kvs.length->R acc'.toList { s with heap:=h',toks:=tk }:=
  fun h' tk acc' c' hk hS' hacc=>h h' tk acc'.toList hk (Heap.lt_size hS') (by rw[Array.length_toList];exact hacc.1) fun j v e=>hacc.2 j v (by rw[<- Array.getElem?_toList];exact e)
 refine wpAny_mono key (fun f s' x=>?_) fun e s' x=>?_
 . cases f with
   | done f=>
     obtain⟨h',tk,acc',c',e,rfl,hk,hS',hacc⟩:=x;cases e;show wpAny _ A (load s.heap.objs.size >>= _) _ _ _;refine wpAny_bind (wpAny_load hS' ?_);exact wpAny_pure (fin h' tk acc' c' hk hS' hacc)
   | again c₁=>
     refine⟨x.1,codeAny_mono x.2 fun q s₂ y=>?_⟩
     obtain⟨h',tk,acc',c',rfl,rfl,hk,hS',hacc⟩:=y;show wpAny _ A (load s.heap.objs.size >>= _) _ _ _;refine wpAny_bind (wpAny_load hS' ?_);exact wpAny_pure (fin h' tk acc' c' hk hS' hacc)
 . obtain⟨_,_,_,_,e',_⟩:=x
   cases e'
theorem kZ(num:κ->Int):∀(vs:List Value) (kvs:List (κ×Value)),vs.length=kvs.length->(∀(j:Nat) (v:Value),vs[j]?=some v->∃ k x,kvs[j]?=some (k,x) /\ ∃ t,v=.int (num k) t)->IntsAre vs (kvs.map fun kv=>num kv.1)
 |[],[],_,_=>.nil
 |[],_ ::_,h,_=>by simp at h
 |_ ::_,[],h,_=>by simp at h
 | v ::vs,kv ::kvs,h,hv=>by
   obtain⟨k,x,e,t,rfl⟩:=hv 0 v rfl;simp only[List.getElem?_cons_zero,Option.some.injEq]at e;subst e;exact .cons _ _ (kZ num vs kvs (by simpa using h) fun j u hu=>by simpa using hv (j+1) u (by simpa using hu))
theorem tI{Q:Value->Shared->Prop}(hh:A.handled=none)(hm:s.heap.DictAt knd d kvs ep)(lo:(d==sysModules)=false)(hn:kvs.length<64)(num:κ->Int)(hk:∀ k v x,(k,x)∈kvs->knd.is k v=true->∃ t,v=.int (num k) t)
  (h:∀(h':Heap) (D:Addr) (tk:Nat) (out:Array Value) (ns':List Int) (e:Nat),(∀ b o,s.heap.get? b=some o->h'.get? b=some o)->s.heap.objs.size<=D->h'.get? D=some (seqObj "list" out e)->IntsAre out.toList ns'->ns'.Perm (kvs.map fun kv=>num kv.1)->ns'.Pairwise (·<=·)->Q (.ref D) { s with heap:=h',toks:=tk }):
  wpAny (model prog w) A (call (.builtin "sorted") [.ref d]) Q E s:=by
 refine Calls.call_function_entry kind_sorted plain_sorted entry_sorted (args_sorted1 _) ?_;unfold Builtin.«sorted»;refine wpAny_bind (m:=checkCount "sorted" 1 1 _) (wpAny_pure ?_);refine wpAny_bind (rL hh hm lo (by rw[sizeLine_eq];omega) fun h1 tk vs hk1 hsz hl1 hv=>?_);refine wpAny_bind (wpAny_newList ?_)
 have hI:IntsAre vs (kvs.map fun kv=>num kv.1):=kZ num vs kvs hl1 fun j v e=>by
  obtain⟨k,x,e1,e2⟩:=hv j v e
  exact⟨k,x,e1,hk k v x (List.mem_of_getElem? e1) e2⟩
 have hoL:(h1.push (seqObj "list" vs.toArray 0)).get? h1.objs.size=some (seqObj "list" vs.toArray 0):=Heap.get?_push_size _ rfl
 show wpAny _ _ _ _ _ { s with heap:=h1.push (seqObj "list" vs.toArray 0),toks:=tk };refine wpAny_bind (wpAny_holding (wpAny_call_entry slot_list_sort ⟨_,hoL,rfl⟩ entry_list_sort (list_sort_tree hoL hI (by omega) fun out ns' a1 a2 a3=>⟨_,rfl,?_⟩) (args_list_sort _)));obtain⟨e,he⟩:=sortedHeap_at (out:=out) hoL;refine wpAny_pure ⟨_,rfl,h _ h1.objs.size tk out ns' e (fun b o eb=>?_) (Nat.le_of_lt hsz) he a1 a2 a3⟩;have hb:=hk1 b o eb
 have hlt:b<h1.objs.size:=Heap.lt_size hb
 rw[sortedHeap_old (Nat.ne_of_lt hlt) (by rw[size_push'];exact Nat.lt_succ_of_lt hlt),Heap.get?_push_ne _ _ _ (Nat.ne_of_lt hlt)];exact hb
end
section
variable{X:Cx}
theorem Cr:∀{vs:List Value} {ns:List Int},IntsAre vs ns->Vals (ns.map V.int) vs
 |_,_,.nil=>.nil
 |_,_,.cons n t h=>.cons ⟨t,rfl⟩ (Cr h)
noncomputable def A0:Key->Int
 |.inl i=>i
 |.inr _=>0
theorem u9:iC X (.builtin "sorted") (fun xs H Q=>∃(a:Addr) (us:List (Key×V)) (ns:List Int),xs=[.ref a] /\ H a=some (.dK us) /\ us.map (·.1)=ns.map Sum.inl /\ ns.length<64 /\ X.A.handled=none /\ ∀(l:Addr) (ns':List Int),H l=none->ns'.Perm ns->ns'.Pairwise (·<=·)->Q (.ref l) (upd H l (.lst (ns'.map V.int)))):=by
 intro pins s σ H xs us' Q I r h;obtain⟨a,us,ns,rfl,ha,hns,hl,hh,q⟩:=h;obtain⟨u,rfl,rx⟩:=vals1 r;cases rx;obtain⟨hz,hd,vs,kv,dd⟩:=yt I.hok ha;obtain⟨o,es,ep,h1,h2,h3,h4,h5,h6⟩:=dd
 have hm:s.heap.DictAt (cL X.prog X.w) a vs ep:=⟨o,es,h1,h2,h3,h4,h5,h6⟩
 have hkeys:vs.map (·.1)=ns.map Sum.inl:=by rw[<- kv.keys];exact hns
 have hlen:vs.length=ns.length:=by
  have:=congrArg List.length hkeys
  simpa using this
 have hnum:(vs.map fun x=>A0 x.1)=ns:=by
  have:=congrArg (List.map A0) hkeys;rw[List.map_map,List.map_map]at this
  have e:(A0 ∘ Sum.inl:Int->Int)=id:=by funext i;rfl
  rw[e,List.map_id]at this;exact this
 refine tI hh hm hd (by omega) A0 (fun k v x hx hi=>?_) fun h' D tk out ns' e kp hD hat hI hp hs=>?_
 . have hk:k∈ns.map (Sum.inl:Int->Key):=by rw[<- hkeys];exact List.mem_map_of_mem hx
   obtain⟨i,_,rfl⟩:=List.mem_map.mp hk
   rcases cz (show pM (Sum.inl i) v=true from hi)with⟨j,t,e1,e2⟩|⟨y,t,e1,e2⟩
   . cases e1;exact⟨t,e2⟩
   . cases e1
 . rw[hnum]at hp;have hv:=Cr hI
   have hln:(ns'.map V.int).length<=sizeLine:=by rw[List.length_map,hp.length_eq,sizeLine_eq];omega
   exact⟨.ref D,_,I.laid (t':=tk) kp hD (show dA X.prog X.w _ h' _ (.lst (ns'.map V.int)) from⟨hln,out.toList,e,hv,by simpa using hat⟩),rfl,q D ns' (I.hok.fresh hD) hp hs⟩
end
end L2
namespace L2.E
open PySem PySem.Spec PyProof.Rows L2
theorem Aa{X:Cx}{pos:Pos}:QE X (.Dict [] [] pos) uX:=⟨ze⟩
theorem sP{X:Cx}{o i value:Expr}{td ty tv:TE}{pos pos':Pos}(hu:X.A.units+1<cLine)(ho:QE X o td)(hi:QE X i ty)(hv:QE X value tv)(hs:swapsWith value (some (.Subscript o i pos')) pos.line X.env=pure false:=by rfl):QS X (.Assign [.Subscript o i pos'] value pos) (zB td ty tv):=⟨BC hu ho.out hi.out hv.out hs⟩
end L2.E
namespace L2.P
open PySem PySem.Spec PyProof.Rows L2 L2.E
section
variable{K:PySem.W.Frag}{cls:String->Option Addr}{W:XW}{Av G S₀ S S' H H' B B':Hp}{ρ:ag}{σ:St}{Q:VK}{F:Nat->List Addr}
theorem EM:JD K cls W uX (xD []):=by
 intro Av G S₀ ρ σ S H Q I p;intro q hq;refine p (.ref q) S _ (aL.heap I.sh hq) ⟨[q],?_,by simp,fun a ha=>?_⟩
 . unfold aX
   exact⟨q,_,rfl,aY,rfl,.nil⟩
 . have z:a=q:=by simpa using ha
   subst z
   exact⟨hq,I.sh.free hq⟩
theorem gb.any{kvs:List (Int×PV)}{us:List (Key×V)}(h:gb K S kvs us)(n:Int):(us.any fun kv=>decide (kv.1=(Sum.inl n:Key)))=kvs.any fun p=>decide (p.1=n):=by
 induction h with
 |nil=>rfl
 | @cons p q ps qs h t ih=>
   rw[List.any_cons,List.any_cons,ih,h.1]
   congr 1
   exact decide_eq_decide.mpr ⟨fun z=>Sum.inl.inj z,fun z=>by rw[z]⟩
theorem gb.v9{n:Int}{x:PV}{v:V}(hx:Rep K S x v):∀{kvs:List (Int×PV)} {us:List (Key×V)},gb K S kvs us->gb K S (kvs.map fun p=>if p.1=n then(p.1,x)else p) (us.map fun kv=>if kv.1=(Sum.inl n:Key)then(kv.1,v)else kv)
 |_,_,.nil=>.nil
 | p ::ps,q ::qs,.cons h t=>by
   rw[List.map_cons,List.map_cons];refine .cons ?_ (gb.v9 hx t)
   by_cases z:p.1=n
   . rw[if_pos z,if_pos (by rw[h.1,z])];exact⟨h.1,hx⟩
   . rw[if_neg z,if_neg (fun y=>z (Sum.inl.inj (h.1.symm.trans y)))];exact h
theorem gb.nA{n:Int}{x:PV}{v:V}(hx:Rep K S x v):∀{kvs:List (Int×PV)} {us:List (Key×V)},gb K S kvs us->gb K S (kvs++[(n,x)]) (us++[(Sum.inl n,v)])
 |_,_,.nil=>.cons ⟨rfl,hx⟩ .nil
 |_ ::_,_ ::_,.cons h t=>.cons h (gb.nA hx t)
theorem gb.put{kvs:List (Int×PV)}{us:List (Key×V)}{n:Int}{x:PV}{v:V}(h:gb K S kvs us)(hx:Rep K S x v):gb K S (putD kvs n x) (putK us (Sum.inl n) v):=by
 unfold putD putK;rw[h.any n];split
 . exact h.v9 hx
 . exact h.nA hx
theorem gb.keys:∀{kvs:List (Int×PV)} {us:List (Key×V)},gb K S kvs us->us.map (·.1)=(kvs.map (·.1)).map (Sum.inl:Int->Key)
 |_,_,.nil=>rfl
 |_ ::_,_ ::_,.cons h t=>by rw[List.map_cons,List.map_cons,List.map_cons,gb.keys t,h.1]
theorem SRF.C3{i:Nat}{io:Bool}{t:OV}{kvs:List (Int×PV)}{v0:V}{π:List Stp}(J:SRF K cls Av G S₀ ρ σ S H F)(hi:ρ[i]?=some (some (.tr io t)))(hv:σ[i]?=some (some v0))(e:t.get π=some (.di kvs)):
  ∃ q us,fW H v0 π (.ref q) /\ H q=some (.dK us) /\ gb K S kvs us /\
    ∀ S' H' kvs' us',aL S H S' H'->gb K S' kvs' us'->∃ g,SRF K cls Av G S₀ (ρ.set i (some (.tr io (t.put π (.di kvs'))))) σ S' (upd H' q (.dK us')) (jA F i g):=by
 obtain⟨w,f1,rest,wk,r1,p1,nd1,gs,c⟩:=J.part hi hv e;unfold aX at r1;obtain⟨q,us,rfl,hq,rfl,rs⟩:=r1
 refine⟨q,us,wk,hq,rs,fun S' H' kvs' us' wg r'=>?_⟩
 have hGq:=(gs q (by simp)).1;have hSq:=(gs q (by simp)).2
 have hS'q:S' q=none:=by
  cases z:S' q with
  |none=>rfl
  | some o=>
    rcases wg.new q (by rw[z];simp)with y|y
    . exact absurd hSq y
    . rw[hq]at y;cases y
 obtain⟨g,hg,_⟩:=c S' (upd H' q (.dK us')) (.di kvs') [q] wg.s (wg.sh.upd hS'q) ((J.gh.trans wg.g).upd hGq) (fun b h=>by
   rcases wg.new b h with z|z
   . exact J.new b z
   . exact .inr (J.gh.free z)) (by unfold aX;exact⟨q,us',rfl,aY,rfl,r'⟩) (by simp) (fun a ha=>.inl ha) (fun a ha=>by rw[List.mem_singleton.mp ha];exact hS'q) (fun a o hn h=>by
   rw[bj (fun z=>hn (by rw[z];simp))];exact wg.g _ _ h) fun a h=>by
   rcases wg.new a h with z|z
   . exact .inl z
   . exact .inr (.inl z)
 exact⟨g,hg⟩
theorem pT{i:Nat}{te tk tx:TE}{mp:MP}{mk mv:ag->OE}(hp:JP K cls te i mp)(hk:JE K cls W tk mk)(hx:JE K cls W tx mv):JS K cls W (zB te tk tx) (lT i mp mk mv):=by
 intro Av G S₀ ρ σ S H D I p;unfold lT at p
 refine hx.goS I p fun r v S1 H1 I1 w1 r1 p1=>?_
 cases r with
 |fr xs=>exact p1.elim
 |al xs=>exact p1.elim
 | sh x=>
   dsimp only at p1
   obtain⟨io,t,π,u,hi,e0,e1,p2⟩:=mX p1;obtain⟨v0,hv0⟩:=I1.val hi
   cases u with
   |sh x=>exact p2.elim
   |ob c ks us=>exact p2.elim
   |ol x=>exact p2.elim
   |dt x=>exact p2.elim
   | di kvs=>
     dsimp only at p2
     refine hp.at I1 hi hv0 e0 e1 fun w S2 H2 w2 I2 wk=>?_
     have p3:=p2.back w2.s
     refine hk.goS I2 p3 fun k z S3 H3 I3 w3 r3 p4=>?_
     cases en:k.pv with
     | int n=>
       rw[en]at p4
       dsimp only at p4
       split at p4
       . rename_i hlt;obtain⟨F,J⟩:=id I1;obtain⟨q,us,wk',hq,hd,c⟩:=J.C3 hi hv0 e1;have:=wk.inj (wk'.mono w2.g);subst this
         have hz:z=.int n:=by have:=r3.rd I3.sh;rw[en]at this;exact cn this
         subst hz
         have wg:aL S1 H1 S3 H3:=w2.trans w3
         have hlu:us.length<sizeLine:=by
          rw[<- uM,<- Paired.length hd];exact hlt
         obtain⟨g,J3⟩:=c S3 H3 (putD kvs n x) (putK us (Sum.inl n) v) wg ((hd.mono wg.s).put (Rep.mono wg.s r1))
         exact⟨q,_,rfl,Am.k (k:=(Sum.inl n:Key)) (wg.g _ _ hq) hlu,p4 σ S3 _ ⟨_,J3⟩ (ay.refl _)⟩
       . exact p4.elim
     |_=>rw[en]at p4;exact p4.elim
theorem yb{A:Around}{td:TE}{i:Nat}{mp:MP}(hh:A.handled=none)(hp:JP K cls td i mp):JE K cls W (tCB (fun xs H Q=>∃(a:Addr) (us:List (Key×V)) (ns:List Int),xs=[.ref a] /\ H a=some (.dK us) /\ us.map (·.1)=ns.map Sum.inl /\ ns.length<64 /\ A.handled=none /\ ∀(l:Addr) (ns':List Int),H l=none->ns'.Perm ns->ns'.Pairwise (·<=·)->Q (.ref l) (upd H l (.lst (ns'.map V.int)))) (fJ td j1)) (lg i mp):=by
 intro Av G S₀ ρ σ S H Q I p;unfold lg at p;split at p
 . rename_i kvs es;split at p
   . rename_i hl
     refine hp.sub I es fun w S2 H2 f w2 I2 r=>?_
     unfold aX at r;obtain⟨q,us,rfl,hq,_,hd⟩:=r;have hkeys:=hd.keys
     refine⟨q,us,kvs.map (·.1),rfl,hq,hkeys,by rw[List.length_map];exact hl,hh,fun l ns' hl' hpm hs=>?_⟩
     have e:ns'=qK (kvs.map (·.1)):=rh (hpm.trans (mF _).symm) hs (jD _)
     subst e;exact p (.ref l) S2 _ (w2.trans (aL.heap I2.sh hl')) ⟨l,_,rfl,w2.g.free hl',I2.sh.free hl',aY,bq.ints⟩
   . exact p.elim
 . exact p.elim
end
end L2.P
namespace PG
noncomputable def iS(n:Int):Bool:=(decide (0<=n)&&decide (n<55296))||(decide (57343<n)&&decide (n<=1114111))
noncomputable def aJ(n:Int):List Int:=if n<128 then[n]else if n<2048 then[192+n/64,128+n%64]else if n<65536 then[224+n/4096,128+n/64%64,128+n%64]else[240+n/262144,128+n/4096%64,128+n/64%64,128+n%64]
noncomputable def cell(ns:List Int)(k:Int):Int:=if ns=[]then 0 else ns.getD (k%(ns.length:Int)).toNat 0
noncomputable def mix(ns:List Int)(k:Int):Int:=
 let a:=(cell ns k+104729*(k+1))%4294967291
 let b:=a*48271%4294967279
 (b/64*69621+b)%4294967231
noncomputable def menu:List Int:=[34,92,47,8,12,10,13,9,0,31,127]
noncomputable def point(n:Int):Int:=
 if n%8<2 then 32+n/8%95 else if n%8<4 then menu.getD (n/8%11).toNat 0 else if n%8=4 then 128+n/8%1920
 else if n%8=5 then 2048+n/8%53248 else if n%8=6 then 57344+n/8%8192 else 65536+n/8%1048576
noncomputable def qc(ns:List Int)(k:Int):Int:=if mix ns k/5%8=3 then mix ns k/40%14 else mix ns k%5
noncomputable def points(ns:List Int)(k:Int):List Int:=(List.range (qc ns k).toNat).map fun j:Nat=>point (mix ns (k+1+(j:Int)))
theorem uV(ns:List Int)(k:Int):0<=mix ns k /\ mix ns k<4294967231:=by unfold mix;dsimp only;omega
theorem uC(ns:List Int)(k:Int):0<=qc ns k /\ qc ns k<14:=by
 have:=uV ns k
 unfold qc;split<;>omega
theorem BO(i:Nat)(h:i<11):0<=menu.getD i 0 /\ menu.getD i 0<128:=by
 revert h;revert i;decide
theorem zW(n:Int):iS (point n)=true:=by
 unfold point iS;have h11:=BO (n/8%11).toNat (by omega);simp only[Bool.or_eq_true,Bool.and_eq_true,decide_eq_true_eq];split
 . omega
 . split
   . omega
   . split
     . omega
     . split
       . omega
       . split<;>omega
theorem lb(ns:List Int)(k:Int):(points ns k).all iS=true:=by
 rw[List.all_eq_true];intro x hx;unfold points at hx;obtain⟨j,_,rfl⟩:=List.mem_map.mp hx;exact zW _
theorem mG(ns:List Int)(k:Int):(points ns k).length<14:=by
 have:=uC ns k;unfold points;rw[List.length_map,List.length_range];omega
end PG
namespace PG
noncomputable def mark(k:Nat):Int:=[0,192,224,240].getD k 0
noncomputable def val(b:Int)(cs:List Int):Int:=cs.foldl (fun n c=>n*64+c - 128) (b - mark cs.length)
theorem jw{n:Int}(h:iS n=true):0<=n /\ n<=1114111:=by
 unfold iS at h;simp only[Bool.or_eq_true,Bool.and_eq_true,decide_eq_true_eq]at h;omega
end PG
namespace L2.P
open PySem
@[simp] theorem Cp(s:String):(Str.ofString s).cps.all (·<0x110000)=true:=by
  rw[Str.ofString_eq_toList,List.all_toArray,List.all_map];rw[List.all_eq_true];intro c _;have:=c.valid;simp only[Function.comp,decide_eq_true_eq]
  rcases this with h|⟨_,h⟩
  . exact Nat.lt_of_lt_of_le h (by decide)
  . exact h
theorem toNat_inj:∀(xs ys:List Char),xs.map Char.toNat=ys.map Char.toNat->xs=ys
 |[],[],_=>rfl
 |[],_ ::_,h=>by cases h
 |_ ::_,[],h=>by cases h
 | x ::xs,y ::ys,h=>by
   rw[List.map_cons,List.map_cons]at h
   injection h with h1 h2
   have:x=y:=Char.ext (UInt32.toNat_inj.mp h1)
   rw[this,toNat_inj xs ys h2]
theorem bQ(a b:String):Str.ofString a=Str.ofString b↔a=b:=by
 constructor
 . intro h;rw[Str.ofString_eq_toList,Str.ofString_eq_toList]at h
   injection h with h
   have h2:a.toList.map Char.toNat=b.toList.map Char.toNat:=by
    have:=congrArg Array.toList h
    simpa using this
   exact String.toList_inj.mp (toNat_inj _ _ h2)
 . intro h;rw[h]
@[simp] theorem Aq(a b:String):(Str.ofString a==Str.ofString b)=decide (a=b):=by
  by_cases h:a=b
  . subst h;simp
  . have:Str.ofString a≠Str.ofString b:=fun z=>h ((bQ a b).mp z)
    simp[h,this]
@[simp] theorem GB(a b:String):je (.str (Str.ofString a)) (.str (Str.ofString b))=decide (a=b):=by simp[je]
theorem ng{i:Nat}{mb:ag->OS}{x:PV}{xs:List PV}{ρ ρ':ag}(h:mb (ρ.set i (some (.sh x)))=.nx ρ'):dM i mb (x ::xs) ρ=dM i mb xs ρ':=by rw[gf,h];rfl
@[simp] theorem get_nil(t:OV):t.get []=some t:=by cases t<;>rfl
@[simp] theorem gS(t u:OV):t.put [] u=u:=by cases t<;>rfl
end L2.P
namespace PG
open L2.P PySem
inductive It where
 |sp (lo hi:Int)|aM|value|lead|figures|fraction|exponent|sign|text|escape|code|coded|hex|hexd|hexcf|row|mrow|fields|mfields|name
 deriving DecidableEq
noncomputable def Hx:It->PV
 |.sp lo hi=>.tup [.int lo,.int hi]
 |.aM=>.str "white" | .value=>.str "value" | .lead=>.str "lead" | .figures=>.str "figures" | .fraction=>.str "fraction" | .exponent=>.str "exponent" | .sign=>.str "sign"
 |.text=>.str "text" | .escape=>.str "escape" | .code=>.str "code" | .coded=>.str "code d" | .hex=>.str "hex" | .hexd=>.str "hex d" | .hexcf=>.str "hex c to f"
 |.row=>.str "row" | .mrow=>.str "more row" | .fields=>.str "fields" | .mfields=>.str "more fields" | .name=>.str "name"
noncomputable def loose:It->Bool
 |.aM=>true|.figures=>true|.fraction=>true|.exponent=>true|.sign=>true
 |_=>false
noncomputable def opn:It->Bool
 |.row=>true|.mrow=>true|.fields=>true|.mfields=>true
 |_=>false
noncomputable def wht(b:Int):Bool:=decide (9=b)||(decide (10=b)||(decide (13=b)||decide (32=b)))
noncomputable def dF(b:Int):Option Int:=if 48<=b /\ b<=57 then some (b - 48)else if 65<=b /\ b<=70 then some (b - 55)else if 97<=b /\ b<=102 then some (b - 87)else none
noncomputable def u1(b:Int):Option (List It):=if b=48 then some [.fraction,.exponent]else if 48<=b /\ b<=57 then some [.figures,.fraction,.exponent]else none
noncomputable def ox(b:Int):Option (List It):=
 if b=91 then some [.aM,.row]else if b=123 then some [.aM,.fields]else if b=34 then some [.text]else if b=45 then some [.lead]
 else if b=110 then some [.sp 117 117,.sp 108 108,.sp 108 108]else if b=116 then some [.sp 114 114,.sp 117 117,.sp 101 101]else if b=102 then some [.sp 97 97,.sp 108 108,.sp 115 115,.sp 101 101]
 else u1 b
noncomputable def vG:List It:=[.aM,.sp 58 58,.aM,.value,.aM,.mfields]
noncomputable def tls(b:Int):Option (List It):=
 if 0<=b /\ b<128 then some []else if 194<=b /\ b<224 then some [.sp 128 191]
 else if 224<=b /\ b<240 then some [if b=224 then .sp 160 191 else if b=237 then .sp 128 159 else .sp 128 191,.sp 128 191]
 else if 240<=b /\ b<245 then some [if b=240 then .sp 144 191 else if b=244 then .sp 128 143 else .sp 128 191,.sp 128 191,.sp 128 191]
 else none
noncomputable def zo(b:Int):Option (List It):=if b=34 then some []else if b=92 then some [.escape,.text]else if b<32 then none else(tls b).map (·++[.text])
noncomputable def DG(b:Int):Bool:=b=34||b=92||b=47||b=98||b=102||b=110||b=114||b=116
noncomputable def Hf(b:Int):Option (List It):=if b=117 then some [.code]else if DG b then some []else none
noncomputable def Dt(w:Int):Option (List It):=if w<8 then some [.hex,.hex]else if w<12 then some [.hex,.hex,.sp 92 92,.sp 117 117,.hexd,.hexcf,.hex,.hex]else none
noncomputable def bh:It->Int->Option (List It)
 |.sp lo hi,b=>if lo<=b /\ b<=hi then some []else none
 |.aM,b=>if wht b then some [.aM]else none
 |.value,b=>ox b
 |.lead,b=>u1 b
 |.figures,b=>if 48<=b /\ b<=57 then some [.figures]else none
 |.fraction,b=>if b=46 then some [.sp 48 57,.figures]else none
 |.exponent,b=>if b=101 \/ b=69 then some [.sign,.sp 48 57,.figures]else none
 |.sign,b=>if b=43 \/ b=45 then some []else none
 |.text,b=>zo b
 |.escape,b=>Hf b
 |.code,b=>(dF b).bind fun w=>if w=13 then some [.coded]else some [.hex,.hex,.hex]
 |.coded,b=>(dF b).bind Dt
 |.hex,b=>(dF b).map fun _=>[]
 |.hexd,b=>(dF b).bind fun w=>if w=13 then some []else none
 |.hexcf,b=>(dF b).bind fun w=>if 12<=w then some []else none
 |.row,b=>if b=93 then some []else(ox b).map (·++[.aM,.mrow])
 |.mrow,b=>if b=44 then some [.aM,.value,.aM,.mrow]else if b=93 then some []else none
 |.fields,b=>if b=125 then some []else if b=34 then some (.text ::vG)else none
 |.mfields,b=>if b=44 then some (.aM ::.name ::vG)else if b=125 then some []else none
 |.name,b=>if b=34 then some [.text]else none
noncomputable def cnt(st:List It):Nat:=(st.filter opn).length
noncomputable def gon:List It->Int->List It×Bool
 |[],_=>([],false)
 | it ::st,b=>match bh it b with
   |some l=>(l++st,decide (cnt (l++st)<=64))
   |none=>if loose it then gon st b else(st,false)
noncomputable def tk:List It->List Int->List It×Nat
 |st,[]=>(st,0)
 |st,b ::r=>if(gon st b).2 then((tk (gon st b).1 r).1,(tk (gon st b).1 r).2+1)else((gon st b).1,0)
noncomputable def st0:List It:=[.aM,.value,.aM]
noncomputable def flt(row:List Int):Option Nat:=if(tk st0 row).2=row.length /\ (tk st0 row).1.all loose=true then none else some (tk st0 row).2
noncomputable def wk(st:List It):OV:=.ob "Walk" ["coming"] [.ol ((st.reverse.map Hx).map .sh)]
end PG
namespace PG
inductive Sg where
 |pl (p:Int)|sh (c p:Int)|hx (a b c d:Int)|pr (a b c d e f g h:Int)
noncomputable def pts:Sg->List Int
 |.pl p=>[p]
 |.sh c _=>[92,c]
 |.hx a b c d=>[92,117,a,b,c,d]
 |.pr a b c d e f g h=>[92,117,a,b,c,d,92,117,e,f,g,h]
noncomputable def hv(b:Int):Int:=(dF b).getD 0
noncomputable def cod(a b c d:Int):Int:=16*(16*(16*hv a+hv b)+hv c)+hv d
noncomputable def Fh:Sg->Int
 |.pl p=>p
 |.sh _ p=>p
 |.hx a b c d=>cod a b c d
 |.pr a b c d e f g h=>65536+1024*(cod a b c d - 55296)+cod e f g h - 56320
noncomputable def shP:List (Int×Int):=[(34,34),(92,92),(47,47),(98,8),(102,12),(110,10),(114,13),(116,9)]
noncomputable def Sok:Sg->Prop
 |.pl p=>iS p=true /\ 32<=p /\ p≠34 /\ p≠92
 |.sh c p=>(c,p)∈shP
 |.hx a b c d=>(dF a).isSome=true /\ (dF b).isSome=true /\ (dF c).isSome=true /\ (dF d).isSome=true /\ ¬ (55296<=cod a b c d /\ cod a b c d<=57343)
 |.pr a b c d e f g h=>(dF a=some 13 /\ 8<=hv b /\ hv b<12 /\ (dF b).isSome=true /\ (dF c).isSome=true /\ (dF d).isSome=true) /\ dF e=some 13 /\ 12<=hv f /\ (dF f).isSome=true /\ (dF g).isSome=true /\ (dF h).isSome=true
noncomputable def ja(s:Sg):List Int:=(pts s).flatMap aJ
theorem gD{b w:Int}(h:dF b=some w):0<=w /\ w<16 /\ 48<=b /\ b<=102 /\ b≠92 /\ b≠117:=by
 unfold dF at h;split at h
 . injection h with h;omega
 . split at h
   . injection h with h;omega
   . split at h
     . injection h with h;omega
     . cases h
theorem jl{b w:Int}(h:dF b=some w):hv b=w:=by unfold hv;rw[h];rfl
theorem iJ{n:Int}(h:n<128):aJ n=[n]:=by unfold aJ;rw[if_pos h]
theorem cnt_cons(it:It)(st:List It):cnt (it ::st)=(if opn it then 1 else 0)+cnt st:=by
 unfold cnt
 cases e:opn it<;>simp[e]
 omega
theorem AM(l st:List It):cnt (l++st)=cnt l+cnt st:=by
 unfold cnt;rw[List.filter_append,List.length_append]
theorem Fm{st st':List It}{b:Int}{r:List Int}(h:gon st b=(st',true)):tk st (b ::r)=((tk st' r).1,(tk st' r).2+1):=by
 simp[tk,h]
theorem BL{it:It}{st l:List It}{b:Int}{r:List Int}(h:bh it b=some l)(hl:cnt l=0)(hc:cnt st<=64):tk (it ::st) (b ::r)=((tk (l++st) r).1,(tk (l++st) r).2+1):=by
 refine Fm ?_
 have:cnt (l++st)<=64:=by rw[AM];omega
 simp[gon,h,this]
theorem Br{it:It}{st:List It}{b:Int}{r:List Int}(h:bh it b=none)(hl:loose it=true):tk (it ::st) (b ::r)=tk st (b ::r):=by
 simp[tk,gon,h,hl]
noncomputable def Goes(st:List It)(bs:List Int)(st':List It):Prop:=∀ r,tk st (bs++r)=((tk st' r).1,(tk st' r).2+bs.length)
theorem Goes.nil(st:List It):Goes st [] st:=fun r=>by simp
theorem Goes.trans{a b c:List It}{xs ys:List Int}(h:Goes a xs b)(k:Goes b ys c):Goes a (xs++ys) c:=fun r=>by
 rw[List.append_assoc,h,k,List.length_append]
 congr 1
 omega
theorem Goes.step{it:It}{st l st':List It}{b:Int}{bs:List Int}(h:bh it b=some l)(hl:cnt l=0)(hc:cnt st<=64)(k:Goes (l++st) bs st'):Goes (it ::st) (b ::bs) st':=fun r=>by
 rw[List.cons_append,BL h hl hc,k,List.length_cons]
 congr 1
theorem As{p:Int}{st:List It}(h:iS p=true)(h1:32<=p)(h2:p≠34)(h3:p≠92)(hc:cnt st<=64):Goes (.text ::st) (aJ p) (.text ::st):=by
 have hr:=jw h
 have hs:p<55296 \/ 57343<p:=by
  unfold iS at h;simp only[Bool.or_eq_true,Bool.and_eq_true,decide_eq_true_eq]at h;omega
 have hc1:cnt (.text ::st)<=64:=by rw[cnt_cons];simp[opn];omega
 have hsp:∀ lo hi:Int,cnt (.sp lo hi ::.text ::st)<=64:=fun lo hi=>by rw[cnt_cons,cnt_cons];simp[opn];omega
 have b1:∀ b:Int,b≠34->b≠92->¬ b<32->bh .text b=(tls b).map (·++[.text]):=fun b g1 g2 g3=>by simp only[bh,zo,g1,g2,g3,if_false]
 unfold aJ
 by_cases c1:p<128
 . rw[if_pos c1];refine Goes.step (l:=[.text]) ?_ rfl hc (.nil _);rw[b1 p h2 h3 (by omega)];unfold tls;rw[if_pos ⟨by omega,c1⟩];rfl
 . rw[if_neg c1]
   by_cases c2:p<2048
   . rw[if_pos c2];refine Goes.step (l:=[.sp 128 191,.text]) ?_ rfl hc ?_
     . rw[b1 _ (by omega) (by omega) (by omega)];unfold tls;rw[if_neg (by omega),if_pos (by omega)];rfl
     . refine Goes.step (l:=[]) ?_ rfl hc1 (.nil _);simp only[bh];rw[if_pos (by omega)]
   . rw[if_neg c2]
     by_cases c3:p<65536
     . rw[if_pos c3];refine Goes.step (l:=[if 224+p/4096=224 then .sp 160 191 else if 224+p/4096=237 then .sp 128 159 else .sp 128 191,.sp 128 191,.text]) ?_ ?_ hc ?_
       . rw[b1 _ (by omega) (by omega) (by omega)];unfold tls;rw[if_neg (by omega),if_neg (by omega),if_pos (by omega)];rfl
       . split
         . rfl
         . split<;>rfl
       . refine Goes.step (l:=[]) ?_ rfl (hsp _ _) ?_
         . split
           . simp only[bh];rw[if_pos (by omega)]
           . split
             . simp only[bh];rw[if_pos (by omega)]
             . simp only[bh];rw[if_pos (by omega)]
         . refine Goes.step (l:=[]) ?_ rfl hc1 (.nil _);simp only[bh];rw[if_pos (by omega)]
     . rw[if_neg c3]
       have hsp2:cnt (.sp 128 191 ::.sp 128 191 ::.text ::st)<=64:=by rw[cnt_cons,cnt_cons,cnt_cons];simp[opn];omega
       refine Goes.step (l:=[if 240+p/262144=240 then .sp 144 191 else if 240+p/262144=244 then .sp 128 143 else .sp 128 191,.sp 128 191,.sp 128 191,.text]) ?_ ?_ hc ?_
       . rw[b1 _ (by omega) (by omega) (by omega)];unfold tls;rw[if_neg (by omega),if_neg (by omega),if_neg (by omega),if_pos (by omega)];rfl
       . split
         . rfl
         . split<;>rfl
       . refine Goes.step (l:=[]) ?_ rfl hsp2 ?_
         . split
           . simp only[bh];rw[if_pos (by omega)]
           . split
             . simp only[bh];rw[if_pos (by omega)]
             . simp only[bh];rw[if_pos (by omega)]
         . refine Goes.step (l:=[]) ?_ rfl (hsp _ _) ?_
           . simp only[bh];rw[if_pos (by omega)]
           . refine Goes.step (l:=[]) ?_ rfl hc1 (.nil _);simp only[bh];rw[if_pos (by omega)]
theorem jP{b w:Int}(h:dF b=some w):bh .hex b=some []:=by simp[bh,h]
theorem some_of{b:Int}(h:(dF b).isSome=true):∃ w,dF b=some w:=Option.isSome_iff_exists.mp h
theorem gu{a b c d:Int}(ha:(dF a).isSome=true)(hb:(dF b).isSome=true)(hc:(dF c).isSome=true)(hd:(dF d).isSome=true):aJ a=[a] /\ aJ b=[b] /\ aJ c=[c] /\ aJ d=[d]:=by
 obtain⟨w1,e1⟩:=some_of ha;obtain⟨w2,e2⟩:=some_of hb;obtain⟨w3,e3⟩:=some_of hc;obtain⟨w4,e4⟩:=some_of hd;have:=gD e1;have:=gD e2;have:=gD e3;have:=gD e4
 exact⟨iJ (by omega),iJ (by omega),iJ (by omega),iJ (by omega)⟩
theorem A3(s:Sg)(h:Sok s)(st:List It)(hc:cnt st<=64):Goes (.text ::st) (ja s) (.text ::st):=by
 have hc1:cnt (.text ::st)<=64:=by rw[cnt_cons];simp[opn];omega
 have n0:∀ it:It,opn it=false->∀ st,cnt st<=64->cnt (it ::st)<=64:=fun it ho st h=>by rw[cnt_cons,ho];simp;omega
 cases s with
 | pl p=>
   obtain⟨h1,h2,h3,h4⟩:=h;show Goes _ (aJ p++[]) _;rw[List.append_nil];exact As h1 h2 h3 h4 hc
 | sh c p=>
   have hb:ja (.sh c p)=[92,c] /\ bh .escape c=some []:=by
    simp only[Sok,shP,List.mem_cons,Prod.mk.injEq,List.not_mem_nil,or_false]at h
    rcases h with h|h|h|h|h|h|h|h<;>(obtain⟨rfl,rfl⟩:=h;exact⟨rfl,rfl⟩)
   rw[hb.1];exact Goes.step (l:=[.escape,.text]) rfl rfl hc (Goes.step (l:=[]) hb.2 rfl hc1 (.nil _))
 | hx a b c d=>
   obtain⟨ha,hb,hcc,hd,hs⟩:=h;obtain⟨e1,e2,e3,e4⟩:=gu ha hb hcc hd
   have hby:ja (.hx a b c d)=[92,117,a,b,c,d]:=by
    show aJ 92++(aJ 117++(aJ a++(aJ b++(aJ c++(aJ d++[])))))=_;rw[e1,e2,e3,e4];rfl
   rw[hby];obtain⟨w1,f1⟩:=some_of ha;obtain⟨w2,f2⟩:=some_of hb;obtain⟨w3,f3⟩:=some_of hcc;obtain⟨w4,f4⟩:=some_of hd;refine Goes.step (l:=[.escape,.text]) rfl rfl hc (Goes.step (l:=[.code]) rfl rfl hc1 ?_)
   by_cases hw:w1=13
   . have h8:w2 < 8:=by
      have g2:=gD f2;have g3:=gD f3;have g4:=gD f4;simp only[cod,jl f1,jl f2,jl f3,jl f4]at hs;omega
     refine Goes.step (l:=[.coded]) (by simp[bh,f1,hw]) rfl hc1 (Goes.step (l:=[.hex,.hex]) (by simp[bh,f2,Dt,h8]) rfl hc1 ?_);exact Goes.step (l:=[]) (jP f3) rfl (n0 _ rfl _ hc1) (Goes.step (l:=[]) (jP f4) rfl hc1 (.nil _))
   . refine Goes.step (l:=[.hex,.hex,.hex]) (by simp[bh,f1,hw]) rfl hc1 ?_;exact Goes.step (l:=[]) (jP f2) rfl (n0 _ rfl _ (n0 _ rfl _ hc1)) (Goes.step (l:=[]) (jP f3) rfl (n0 _ rfl _ hc1) (Goes.step (l:=[]) (jP f4) rfl hc1 (.nil _)))
 | pr a b c d e f g h'=>
   obtain⟨⟨f1,hb8,hb12,hb,hcc,hd⟩,f5,hf12,hf,hg,hh⟩:=h;obtain⟨e1,e2,e3,e4⟩:=gu (by rw[f1];rfl) hb hcc hd;obtain⟨e5,e6,e7,e8⟩:=gu (by rw[f5];rfl) hf hg hh
   have hby:ja (.pr a b c d e f g h')=[92,117,a,b,c,d,92,117,e,f,g,h']:=by
    show aJ 92++(aJ 117++(aJ a++(aJ b++(aJ c++(aJ d++(aJ 92++(aJ 117++(aJ e++(aJ f++(aJ g++(aJ h'++[])))))))))))=_;rw[e1,e2,e3,e4,e5,e6,e7,e8];rfl
   rw[hby];obtain⟨w2,f2⟩:=some_of hb;obtain⟨w3,f3⟩:=some_of hcc;obtain⟨w4,f4⟩:=some_of hd;obtain⟨w6,f6⟩:=some_of hf;obtain⟨w7,f7⟩:=some_of hg;obtain⟨w8,f8⟩:=some_of hh;rw[jl f2]at hb8 hb12;rw[jl f6]at hf12
   have hn8:¬ w2<8:=by omega
   refine Goes.step (l:=[.escape,.text]) rfl rfl hc (Goes.step (l:=[.code]) rfl rfl hc1 (Goes.step (l:=[.coded]) (by simp[bh,f1]) rfl hc1 (Goes.step (l:=[.hex,.hex,.sp 92 92,.sp 117 117,.hexd,.hexcf,.hex,.hex]) (by simp[bh,f2,Dt,hn8,hb12]) rfl hc1 ?_)));have k1:=n0 .hex rfl _ hc1;have k2:=n0 .hex rfl _ k1;have k3:=n0 .hexcf rfl _ k2;have k4:=n0 .hexd rfl _ k3;have k5:=n0 (.sp 117 117) rfl _ k4;have k6:=n0 (.sp 92 92) rfl _ k5;have k7:=n0 .hex rfl _ k6;exact Goes.step (l:=[]) (jP f3) rfl k7 (Goes.step (l:=[]) (jP f4) rfl k6 (Goes.step (l:=[]) rfl rfl k5 (Goes.step (l:=[]) rfl rfl k4 (Goes.step (l:=[]) (by simp[bh,f5]) rfl k3 (Goes.step (l:=[]) (by simp[bh,f6,hf12]) rfl k2 (Goes.step (l:=[]) (jP f7) rfl k1 (Goes.step (l:=[]) (jP f8) rfl hc1 (.nil _))))))))
noncomputable def inner(ss:List Sg):List Int:=ss.flatMap ja
theorem y8(ss:List Sg)(h:∀ s∈ss,Sok s)(st:List It)(hc:cnt st<=64):Goes (.text ::st) (inner ss) (.text ::st):=by
 induction ss with
 |nil=>exact .nil _
 |cons s ss ih=>exact(A3 s (h s List.mem_cons_self) st hc).trans (ih fun x hx=>h x (List.mem_cons_of_mem _ hx))
theorem nR(ss:List Sg)(h:∀ s∈ss,Sok s)(st:List It)(hc:cnt st<=64):Goes (.text ::st) (inner ss++[34]) st:=
 (y8 ss h st hc).trans (Goes.step (l:=[]) rfl rfl hc (.nil _))
inductive Skp:List Int->Prop
 |nil:Skp []
 |one {b:Int} {r:List Int}:b≠34->b≠92->Skp r->Skp (b ::r)
 |two {c:Int} {r:List Int}:Skp r->Skp (92 ::c ::r)
theorem Skp.app{xs ys:List Int}(h:Skp xs)(k:Skp ys):Skp (xs++ys):=by
 induction h with
 |nil=>exact k
 |one h1 h2 _ ih=>exact .one h1 h2 ih
 |two _ ih=>exact .two ih
theorem BY{l:List Int}(h:∀ b∈l,b≠34 /\ b≠92):Skp l:=by
 induction l with
 |nil=>exact .nil
 |cons b l ih=>exact .one (h b List.mem_cons_self).1 (h b List.mem_cons_self).2 (ih fun x hx=>h x (List.mem_cons_of_mem _ hx))
theorem fk{b:Int}{r:List Int}(h:(dF b).isSome=true)(k:Skp r):Skp (b ::r):=by
 obtain⟨w,e⟩:=some_of h;have:=gD e;exact .one (by omega) (by omega) k
theorem Dd(s:Sg)(h:Sok s):Skp (ja s):=by
 cases s with
 | pl p=>
   obtain⟨h1,h2,h3,h4⟩:=h;have hr:=jw h1;show Skp (aJ p++[]);rw[List.append_nil]
   refine BY fun b hb=>?_
   unfold aJ at hb;split at hb
   . simp at hb;omega
   . split at hb
     . simp at hb;omega
     . split at hb<;>(simp at hb;omega)
 | sh c p=>
   simp only[Sok,shP,List.mem_cons,Prod.mk.injEq,List.not_mem_nil,or_false]at h
   rcases h with h|h|h|h|h|h|h|h<;>(obtain⟨rfl,rfl⟩:=h;exact .two .nil)
 | hx a b c d=>
   obtain⟨ha,hb,hcc,hd,hs⟩:=h;obtain⟨e1,e2,e3,e4⟩:=gu ha hb hcc hd
   have hby:ja (.hx a b c d)=[92,117,a,b,c,d]:=by
    show aJ 92++(aJ 117++(aJ a++(aJ b++(aJ c++(aJ d++[])))))=_;rw[e1,e2,e3,e4];rfl
   rw[hby];exact .two (fk ha (fk hb (fk hcc (fk hd .nil))))
 | pr a b c d e f g h'=>
   obtain⟨⟨f1,_,_,hb,hcc,hd⟩,f5,_,hf,hg,hh⟩:=h
   have ha:(dF a).isSome=true:=by rw[f1];rfl
   have he:(dF e).isSome=true:=by rw[f5];rfl
   obtain⟨e1,e2,e3,e4⟩:=gu ha hb hcc hd;obtain⟨e5,e6,e7,e8⟩:=gu he hf hg hh
   have hby:ja (.pr a b c d e f g h')=[92,117,a,b,c,d,92,117,e,f,g,h']:=by
    show aJ 92++(aJ 117++(aJ a++(aJ b++(aJ c++(aJ d++(aJ 92++(aJ 117++(aJ e++(aJ f++(aJ g++(aJ h'++[])))))))))))=_;rw[e1,e2,e3,e4,e5,e6,e7,e8];rfl
   rw[hby];exact .two (fk ha (fk hb (fk hcc (fk hd (.two (fk he (fk hf (fk hg (fk hh .nil)))))))))
theorem xE(ss:List Sg)(h:∀ s∈ss,Sok s):Skp (inner ss):=by
 induction ss with
 |nil=>exact .nil
 |cons s ss ih=>exact(Dd s (h s List.mem_cons_self)).app (ih fun x hx=>h x (List.mem_cons_of_mem _ hx))
theorem Goes.skip{it:It}{st st':List It}{b:Int}{bs:List Int}(h:bh it b=none)(hl:loose it=true)(k:Goes st (b ::bs) st'):Goes (it ::st) (b ::bs) st':=fun r=>by
 rw[List.cons_append,Br h hl,<- List.cons_append,k]
noncomputable def txt(ss:List Sg):List Int:=34 ::(inner ss++[34])
theorem u3{st:List It}(ss:List Sg)(h:∀ s∈ss,Sok s)(hc:cnt st<=64):Goes (.value ::st) (txt ss) st:=
 Goes.step (l:=[.text]) rfl rfl hc (nR ss h st hc)
end PG
namespace PG
noncomputable abbrev isF(b:Int):Prop:=48<=b /\ b<=57
noncomputable def bV(n:Nat):List Int:=if n<10 then[48+(n:Int)]else bV (n/10)++[48+((n%10:Nat):Int)]
termination_by n
decreasing_by omega
noncomputable def dz(n:Nat):List Int:=if n=0 then[]else bV n
theorem Em(n:Nat):bV n=dz (n/10)++[48+((n%10:Nat):Int)]:=by
 rw[bV];unfold dz
 by_cases h:n<10
 . rw[if_pos h,if_pos (by omega),Nat.mod_eq_of_lt h];rfl
 . rw[if_neg h,if_neg (by omega)]
theorem tQ(n:Nat):∀ b∈bV n,isF b:=by
 induction n using Nat.strongRecOn with
 | _ n ih=>
   intro b hb;rw[bV]at hb;split at hb
   . simp at hb;unfold isF;omega
   . rcases List.mem_append.mp hb with z|z
     . exact ih (n/10) (by omega) b z
     . simp at z;unfold isF;omega
theorem B0(n:Nat):bV n≠[]:=by rw[Em];simp
theorem xn(n:Nat)(h:0<n):∃ d r,bV n=d ::r /\ 49<=d /\ d<=57 /\ ∀ b∈r,isF b:=by
 induction n using Nat.strongRecOn with
 | _ n ih=>
   rw[bV];split
   . exact⟨48+(n:Int),[],rfl,by omega,by omega,fun b hb=>by cases hb⟩
   . obtain⟨d,r,e,h1,h2,h3⟩:=ih (n/10) (by omega) (by omega);rw[e]
     refine⟨d,r++[48+((n%10:Nat):Int)],rfl,h1,h2,fun b hb=>?_⟩
     rcases List.mem_append.mp hb with z|z
     . exact h3 b z
     . simp at z;unfold isF;omega
theorem xB:bV 0=[48]:=by rw[bV];rfl
theorem j3(k:Nat):∀ n:Nat,n<10 ^ (k+1)->(bV n).length<=k+1:=by
 induction k with
 |zero=>intro n h;rw[bV,if_pos (by simpa using h)];simp
 | succ k ih=>
   intro n h;rw[bV];split
   . simp
   . have:n/10<10 ^ (k+1):=by rw[Nat.pow_succ]at h;omega
     have:=ih (n/10) this
     simp;omega
noncomputable def cv(ds:List Int):Int:=ds.foldl (fun n d=>10*n+d - 48) 0
theorem A5(ds:List Int)(d:Int):cv (ds++[d])=10*cv ds+d - 48:=by simp[cv]
theorem By(n:Nat):cv (bV n)=n:=by
 induction n using Nat.strongRecOn with
 | _ n ih=>
   rw[bV];split
   . simp[cv];omega
   . rw[A5,ih (n/10) (by omega)];omega
structure Nm where
 neg:Bool
 ip:List Int
 fr:List Int
 ex:Option (Int×List Int×List Int)
noncomputable def frB(fr:List Int):List Int:=if fr=[]then[]else 46 ::fr
noncomputable def exB:Option (Int×List Int×List Int)->List Int
 |none=>[]
 |some (e,s,ds)=>e ::(s++ds)
noncomputable def nb(m:Nm):List Int:=(if m.neg then[45]else[])++(m.ip++(frB m.fr++exB m.ex))
structure Nok(m:Nm):Prop where
 ip:(m.ip=[48]) \/ ∃ d r,m.ip=d ::r /\ 49<=d /\ d<=57 /\ ∀ b∈r,isF b
 fr:∀ b∈m.fr,isF b
 ex:∀ e s ds,m.ex=some (e,s,ds)->(e=101 \/ e=69) /\ (s=[] \/ s=[43] \/ s=[45]) /\ ds≠[] /\ ∀ b∈ds,isF b
noncomputable def nl:It->Bool
 |.figures=>true|.fraction=>true|.exponent=>true
 |_=>false
theorem oa{st:List It}(hc:cnt st<=64)(ds:List Int)(h:∀ b∈ds,isF b):Goes (.figures ::st) ds (.figures ::st):=by
 induction ds with
 |nil=>exact .nil _
 | cons d ds ih=>
   refine Goes.step (l:=[.figures]) ?_ rfl hc (ih fun b hb=>h b (List.mem_cons_of_mem _ hb));have:=h d List.mem_cons_self;simp only[bh];rw[if_pos this]
theorem y9{m:Nm}(h:Nok m){st:List It}(hc:cnt st<=64):∃ ls,ls.all nl=true /\ Goes (.value ::st) (nb m) (ls++st):=by
 have n1:∀ it:It,opn it=false->∀ st,cnt st<=64->cnt (it ::st)<=64:=fun it ho st h=>by rw[cnt_cons,ho];simp;omega
 have hlead:∃ ls,(ls=[.fraction,.exponent] \/ ls=[.figures,.fraction,.exponent]) /\ Goes (.lead ::st) m.ip (ls++st) /\ ∀ b r,m.ip=b ::r->bh .value b=bh .lead b:=by
  rcases h.ip with e|⟨d,r,e,h1,h2,h3⟩
  . exact⟨_,.inl rfl,by rw[e];exact Goes.step (l:=[.fraction,.exponent]) rfl rfl hc (.nil _),fun b r e2=>by rw[e]at e2;cases e2;rfl⟩
  . refine⟨_,.inr rfl,?_,fun b r' e2=>?_⟩
    . rw[e];refine Goes.step (l:=[.figures,.fraction,.exponent]) ?_ rfl hc ?_
      . simp only[bh,u1];rw[if_neg (by omega),if_pos (by omega)]
      . exact oa (n1 _ rfl _ (n1 _ rfl _ hc)) r h3
    . rw[e]at e2;cases e2;simp only[bh,ox];rw[if_neg (by omega),if_neg (by omega),if_neg (by omega),if_neg (by omega),if_neg (by omega),if_neg (by omega),if_neg (by omega)]
 obtain⟨ls,hls,g1,g2⟩:=hlead
 have g3:Goes (.value ::st) ((if m.neg then[45]else[])++m.ip) (ls++st):=by
  cases m.neg with
  |true=>exact Goes.step (l:=[.lead]) rfl rfl hc g1
  | false=>
    rw[if_neg (by decide),List.nil_append]
    rcases h.ip with e|⟨d,r,e,_⟩
    . intro q;have e1:=g1 q;have e2:=g2 48 [] e
      rw[e]at e1 ⊢
      rw[<- e1];simp[tk,gon,e2,loose]
    . intro q;have e1:=g1 q;have e2:=g2 d r e
      have ne:∃ l,bh .lead d=some l:=by
       rw[e]at e1
       cases e3:bh .lead d with
       |some l=>exact⟨l,rfl⟩
       |none=>simp[tk,gon,e3,loose]at e1
      obtain⟨l,hl⟩:=ne
      rw[e]at e1 ⊢
      rw[<- e1];simp[tk,gon,e2,hl]
 have g4:∃ ls',(ls'=[.figures,.exponent] \/ ls'=[.fraction,.exponent] \/ ls'=[.figures,.fraction,.exponent]) /\ Goes (ls++st) (frB m.fr) (ls'++st):=by
  unfold frB
  cases e:m.fr with
  | nil=>
    rw[if_pos rfl]
    refine⟨ls,?_,.nil _⟩
    rcases hls with z|z
    . exact .inr (.inl z)
    . exact .inr (.inr z)
  | cons d ds=>
    rw[if_neg (by simp)];have hf:=h.fr;rw[e]at hf
    refine⟨_,.inl rfl,?_⟩
    have base:Goes (.fraction ::.exponent ::st) (46 ::d ::ds) (.figures ::.exponent ::st):=by
     refine Goes.step (l:=[.sp 48 57,.figures]) rfl rfl (n1 _ rfl _ hc) (Goes.step (l:=[]) ?_ rfl (n1 _ rfl _ (n1 _ rfl _ hc)) (oa (n1 _ rfl _ hc) ds fun b hb=>hf b (List.mem_cons_of_mem _ hb)));have:=hf d List.mem_cons_self;simp only[bh];rw[if_pos this]
    rcases hls with z|z
    . subst z;exact base
    . subst z;exact Goes.skip rfl rfl base
 obtain⟨ls',hls',g5⟩:=g4
 have g6:∃ ls2,ls2.all nl=true /\ Goes (ls'++st) (exB m.ex) (ls2++st):=by
  cases e:m.ex with
  | none=>
    refine⟨ls',?_,.nil _⟩
    rcases hls' with z|z|z<;>(subst z;rfl)
  | some x=>
    obtain⟨eb,s,ds⟩:=x;obtain⟨he,hs,hd,hf⟩:=h.ex eb s ds e
    refine⟨[.figures],rfl,?_⟩
    have base:Goes (.exponent ::st) (eb ::(s++ds)) (.figures ::st):=by
     refine Goes.step (l:=[.sign,.sp 48 57,.figures]) (by rcases he with rfl|rfl<;>rfl) rfl hc ?_
     obtain⟨d,r,ed⟩:∃ d r,ds=d ::r:=by
      cases ds with
      |nil=>exact absurd rfl hd
      |cons d r=>exact⟨d,r,rfl⟩
     subst ed;have hd1:=hf d List.mem_cons_self
     have tail:Goes (.sp 48 57 ::.figures ::st) (d ::r) (.figures ::st):=by
      refine Goes.step (l:=[]) ?_ rfl (n1 _ rfl _ hc) (oa hc r fun b hb=>hf b (List.mem_cons_of_mem _ hb));simp only[bh];rw[if_pos hd1]
     rcases hs with rfl|rfl|rfl
     . refine Goes.skip ?_ rfl tail;unfold isF at hd1;simp only[bh];rw[if_neg (by omega)]
     . exact Goes.step (l:=[]) rfl rfl (n1 _ rfl _ (n1 _ rfl _ hc)) tail
     . exact Goes.step (l:=[]) rfl rfl (n1 _ rfl _ (n1 _ rfl _ hc)) tail
    have k1:bh .figures eb=none:=by rcases he with rfl|rfl<;>rfl
    have k2:bh .fraction eb=none:=by rcases he with rfl|rfl<;>rfl
    rcases hls' with z|z|z
    . subst z;exact Goes.skip k1 rfl base
    . subst z;exact Goes.skip k2 rfl base
    . subst z;exact Goes.skip k1 rfl (Goes.skip k2 rfl base)
 obtain⟨ls2,hl2,g7⟩:=g6
 refine⟨ls2,hl2,?_⟩
 have:=g3.trans (g5.trans g7);unfold nb
 simpa using this
theorem xy{ls st st':List It}{b:Int}{bs:List Int}(h:ls.all nl=true)(hb:bh .figures b=none /\ bh .fraction b=none /\ bh .exponent b=none)(k:Goes st (b ::bs) st'):Goes (ls++st) (b ::bs) st':=by
 induction ls with
 |nil=>exact k
 | cons it ls ih=>
   simp only[List.all_cons,Bool.and_eq_true]at h
   cases it with
   |figures=>exact Goes.skip hb.1 rfl (ih h.2)
   |fraction=>exact Goes.skip hb.2.1 rfl (ih h.2)
   |exponent=>exact Goes.skip hb.2.2 rfl (ih h.2)
   |_=>exact absurd h.1 (by simp[nl])
theorem Al{ls:List It}(h:ls.all nl=true):ls.all loose=true:=by
 rw[List.all_eq_true]at h ⊢
 intro it hi;have:=h it hi
 cases it<;>first|rfl|(exact absurd this (by simp[nl]))
end PG
namespace PG
open L2.P PySem
noncomputable def out:List Bool->List It
 |[]=>[.aM]
 |r ::fs=>.aM ::(if r then .mrow else .mfields) ::out fs
noncomputable def hd(r e:Bool):It:=if r then(if e then .row else .mrow)else(if e then .fields else .mfields)
noncomputable def stk(r e:Bool)(fs:List Bool):List It:=.aM ::hd r e ::out fs
theorem fO:∀ fs:List Bool,cnt (out fs)=fs.length
 |[]=>rfl
 | r ::fs=>by
   show cnt (.aM ::(if r then It.mrow else It.mfields) ::out fs)=fs.length+1;rw[cnt_cons,cnt_cons,fO fs]
   cases r<;>simp[opn]<;>omega
noncomputable def Gs(a:List It)(xs:List Int)(b:List It):Prop:=∃ ls,ls.all nl=true /\ Goes a xs (ls++b)
theorem Gs.of{a b:List It}{xs:List Int}(h:Goes a xs b):Gs a xs b:=⟨[],rfl,h⟩
noncomputable def rl(b:Int):Prop:=bh .figures b=none /\ bh .fraction b=none /\ bh .exponent b=none
theorem Gs.go{a b c:List It}{xs ys:List Int}{y:Int}(h:Gs a xs b)(hy:rl y)(k:Goes b (y ::ys) c):Goes a (xs++y ::ys) c:=by
 obtain⟨ls,hl,h⟩:=h;exact h.trans (xy hl hy k)
theorem xI{b:Int}(h:wht b=true):rl b:=by
 unfold wht at h;simp only[Bool.or_eq_true,decide_eq_true_eq]at h
 refine⟨?_,?_,?_⟩<;>rcases h with h|h|h|h<;>subst h<;>rfl
theorem ua:rl 44:=⟨rfl,rfl,rfl⟩
theorem zr:rl 93:=⟨rfl,rfl,rfl⟩
theorem wV:rl 125:=⟨rfl,rfl,rfl⟩
theorem jN{st:List It}(hc:cnt st<=64):∀ ws:List Int,(∀ b∈ws,wht b=true)->Goes (.aM ::st) ws (.aM ::st)
 |[],_=>Goes.nil _
 |w ::ws,h=>Goes.step (l:=[.aM]) (by simp[bh,h w (List.mem_cons_self)]) rfl hc (jN hc ws fun b hb=>h b (List.mem_cons_of_mem _ hb))
theorem Gs.aM{a st:List It}{xs ws:List Int}(h:Gs a xs (.aM ::st))(hc:cnt st<=64)(hw:∀ b∈ws,wht b=true):Gs a (xs++ws) (.aM ::st):=by
 cases ws with
 |nil=>rw[List.append_nil];exact h
 |cons w ws=>exact .of (h.go (xI (hw w List.mem_cons_self)) (jN hc _ hw))
theorem Goes.past{st st':List It}{b:Int}{bs:List Int}(hb:wht b=false)(k:Goes st (b ::bs) st'):Goes (.aM ::st) (b ::bs) st':=
 Goes.skip (by simp[bh,hb]) rfl k
theorem Goes.one{it:It}{st l:List It}{b:Int}(h:bh it b=some l)(hc:cnt (l++st)<=64):Goes (it ::st) [b] (l++st):=fun r=>by
 have:gon (it ::st) b=(l++st,true):=by unfold gon;rw[h];simp[hc]
 show tk (it ::st) (b ::r)=_;rw[Fm this];rfl
theorem Gs.yd{a:List It}{xs:List Int}{fs:List Bool}(h:Gs a xs (stk true false fs))(hc:fs.length<64):Goes a (xs++[44]) (.aM ::.value ::out (true ::fs)):=by
 refine h.go ua (.past rfl ?_)
 have:=Goes.one (it:=.mrow) (st:=out fs) (b:=44) (l:=[.aM,.value,.aM,.mrow]) rfl (by
  show cnt (.aM ::.value ::out (true ::fs))<=64
  rw[cnt_cons,cnt_cons,fO];simp[opn];omega)
 exact this
theorem Gs.su{a:List It}{xs:List Int}{fs:List Bool}(h:Gs a xs (stk false false fs))(hc:fs.length<64):Goes a (xs++[44]) (.aM ::.name ::.aM ::.sp 58 58 ::.aM ::.value ::out (false ::fs)):=by
 refine h.go ua (.past rfl ?_)
 have:=Goes.one (it:=.mfields) (st:=out fs) (b:=44) (l:=.aM ::.name ::vG) rfl (by
  show cnt (.aM ::.name ::.aM ::.sp 58 58 ::.aM ::.value ::out (false ::fs))<=64
  simp only[cnt_cons,fO];simp[opn];omega)
 exact this
theorem Gs.close{a:List It}{xs:List Int}{fs:List Bool}(r e:Bool)(h:Gs a xs (stk r e fs))(hc:fs.length<=64):Goes a (xs++[if r then 93 else 125]) (out fs):=by
 refine h.go (by cases r;exact wV;exact zr) (.past (by cases r<;>rfl) ?_);exact Goes.one (it:=hd r e) (st:=out fs) (l:=[]) (by cases r<;>cases e<;>rfl) (by rw[List.nil_append,fO];exact hc)
theorem xg{fs:List Bool}(r:Bool)(hc:fs.length<64):Goes (.value ::out fs) [if r then 91 else 123] (stk r true fs):=by
 have:=Goes.one (it:=.value) (st:=out fs) (b:=if r then 91 else 123) (l:=[.aM,hd r true]) (by cases r<;>rfl) (by
  show cnt (.aM ::hd r true ::out fs)<=64
  rw[cnt_cons,cnt_cons,fO];cases r<;>simp[opn,hd]<;>omega)
 exact this
theorem uQ{fs:List Bool}{b:Int}{bs:List Int}{st' l:List It}(hb:ox b=some l)(hn:b≠93)(k:Goes (.value ::out (true ::fs)) (b ::bs) st'):Goes (.row ::out fs) (b ::bs) st':=fun r=>by
 rw[<- k r]
 have e1:bh .row b=some (l++[.aM,.mrow]):=by simp[bh,hn,hb]
 have e2:bh .value b=some l:=hb
 have:gon (.row ::out fs) b=gon (.value ::out (true ::fs)) b:=by
  unfold gon;rw[e1,e2];simp[out]
 show tk _ (b ::(bs++r))=tk _ (b ::(bs++r));unfold tk;rw[this]
inductive Wd where|null|tru|fal
noncomputable def wdb:Wd->List Int
 |.null=>[110,117,108,108]|.tru=>[116,114,117,101]|.fal=>[102,97,108,115,101]
theorem fU{c:Int}{st:List It}(hc:cnt st<=64):Goes (.sp c c ::st) [c] st:=by
 have:=Goes.one (it:=.sp c c) (st:=st) (b:=c) (l:=[]) (by simp[bh]) hc;exact this
theorem xY{st:List It}(hc:cnt st<=64)(w:Wd):Goes (.value ::st) (wdb w) st:=by
 cases w with
 |null=>exact Goes.step (l:=[.sp 117 117,.sp 108 108,.sp 108 108]) rfl rfl hc (Goes.trans (xs:=[117]) (fU (by simpa [cnt_cons,opn]using hc)) (Goes.trans (xs:=[108]) (fU (by simpa [cnt_cons,opn]using hc)) (fU hc)))
 |tru=>exact Goes.step (l:=[.sp 114 114,.sp 117 117,.sp 101 101]) rfl rfl hc (Goes.trans (xs:=[114]) (fU (by simpa [cnt_cons,opn]using hc)) (Goes.trans (xs:=[117]) (fU (by simpa [cnt_cons,opn]using hc)) (fU hc)))
 |fal=>exact Goes.step (l:=[.sp 97 97,.sp 108 108,.sp 115 115,.sp 101 101]) rfl rfl hc (Goes.trans (xs:=[97]) (fU (by simpa [cnt_cons,opn]using hc)) (Goes.trans (xs:=[108]) (fU (by simpa [cnt_cons,opn]using hc)) (Goes.trans (xs:=[115]) (fU (by simpa [cnt_cons,opn]using hc)) (fU hc))))
inductive Lf where|wd(w:Wd)|nm(m:Nm)|tx(l:List Sg)
noncomputable def lfb:Lf->List Int
 |.wd w=>wdb w|.nm m=>nb m|.tx l=>txt l
noncomputable def Lok:Lf->Prop
 |.wd _=>True|.nm m=>Nok m|.tx l=>∀ s∈l,Sok s
theorem BU{st:List It}(hc:cnt st<=64)(x:Lf)(h:Lok x):Gs (.value ::st) (lfb x) st:=by
 cases x with
 |wd w=>exact .of (xY hc w)
 |nm m=>exact y9 h hc
 |tx l=>exact .of (u3 l h hc)
theorem xR{st:List It}(hc:cnt st<=64)(l:List Sg)(h:∀ s∈l,Sok s):Goes (.name ::st) (txt l) st:=
 Goes.step (l:=[.text]) rfl rfl hc (nR l h st hc)
theorem tS{fs:List Bool}(hc:fs.length<64)(l:List Sg)(h:∀ s∈l,Sok s):Goes (.fields ::out fs) (txt l) (.aM ::.sp 58 58 ::.aM ::.value ::out (false ::fs)):=by
 have hcc:cnt (.aM ::.sp 58 58 ::.aM ::.value ::out (false ::fs))<=64:=by simp only[cnt_cons,fO];simp[opn];omega
 have h1:=Goes.one (it:=.fields) (st:=out fs) (b:=34) (l:=.text ::vG) rfl (by
  show cnt (.text ::.aM ::.sp 58 58 ::.aM ::.value ::out (false ::fs))<=64
  rw[cnt_cons];simpa [opn]using hcc)
 exact Goes.trans h1 (nR l h _ hcc)
theorem vw{st:List It}(hc:cnt st<=64){ws:List Int}(hw:∀ b∈ws,wht b=true):Goes (.aM ::.sp 58 58 ::.aM ::st) (ws++[58]) (.aM ::st):=
 (jN (by simpa [cnt_cons,opn]using hc) ws hw).trans (.past rfl (fU (by simpa [cnt_cons,opn]using hc)))
noncomputable def tb(b:Int):Prop:=wht b=true \/ isF b \/ b=46 \/ b=101 \/ b=69 \/ b=43 \/ b=45
theorem Goes.whole{a b:List It}{xs:List Int}(h:Goes a xs b):(tk a xs).2=xs.length:=by
 have:=h [];rw[List.append_nil]at this;rw[this];simp[tk]
noncomputable def short:It->List Int
 |.sp lo _=>[lo]|.value=>[48]|.lead=>[48]|.text=>[34]|.name=>[34,34]|.escape=>[34]|.code=>[48,48,48,48]|.coded=>[48,48,48]
 |.hex=>[48]|.hexd=>[68]|.hexcf=>[67]|.row=>[93]|.mrow=>[93]|.fields=>[125]|.mfields=>[125]
 |_=>[]
noncomputable def ends(st:List It):List Int:=st.flatMap short
theorem eR(it:It)(st:List It):ends (it ::st)=short it++ends st:=rfl
noncomputable def num:It->Bool
 |.figures=>true|.fraction=>true|.exponent=>true|.value=>true|.lead=>true
 |_=>false
noncomputable def Stp(st:List It):Prop:=∀ b r,ends st=b ::r->rl b
theorem xJ{it:It}:short it=[]↔loose it=true:=by cases it<;>simp[short,loose]
theorem xU{st c:List It}{b:Int}{bs:List Int}(h:Goes (.value ::st) (b ::bs) c):∃ l,ox b=some l:=by
 have hw:=h.whole
 cases e:ox b with
 |some l=>exact⟨l,rfl⟩
 | none=>
   unfold tk at hw
   have:gon (.value ::st) b=(st,false):=by
    unfold gon;rw[show bh .value b=none from e];rfl
   rw[this]at hw;simp at hw
theorem va{b:Int}{l:List It}(h:ox b=some l):wht b=false /\ b≠93:=by
 have h1:∀ c:Int,(c=32 \/ c=9 \/ c=10 \/ c=13 \/ c=93)->ox c=none:=by
  intro c hc
  rcases hc with z|z|z|z|z<;>subst z<;>rfl
 refine⟨?_,fun z=>by rw[h1 b (by omega)]at h;cases h⟩
 cases hw:wht b with
 |false=>rfl
 | true=>
   unfold wht at hw;simp only[Bool.or_eq_true,decide_eq_true_eq]at hw;rw[h1 b (by omega)]at h;cases h
theorem vQ(x:Lf)(hx:Lok x):lfb x≠[]:=by
 cases x with
 |wd w=>cases w<;>simp[lfb,wdb]
 |tx l=>simp[lfb,txt]
 | nm m=>
   intro q
   have q':nb m=[]:=q
   unfold nb at q';simp at q'
   rcases hx.ip with z|⟨d,r,z,_⟩<;>rw[z]at q'<;>simp at q'
structure Tr where
 s:String
 a:Int
 b:Int
inductive Ph where|emp|aft|val|nam|col
 deriving DecidableEq
noncomputable def isB(s:String):Bool:=decide (s = "row")||decide (s = "fields")
noncomputable def isT(s:String):Bool:=decide (s = "name")||decide (s = "text")
noncomputable def kNm(k:Bool):String:=if k then "row" else "fields"
noncomputable def clo(s:String):Int:=if s = "fields" then 125 else 93
noncomputable def hld(t:Nat)(d:Tr):Bool:=decide (d.a<t)&&(decide (d.b=0)||decide ((t:Int)<d.b))
noncomputable def hs(T:List Tr)(t:Nat):List String:=T.filterMap fun d:Tr=>if hld t d then some d.s else none
noncomputable def tl(T:List Tr)(t:Nat):List (String×Int):=T.filterMap fun d:Tr=>if isT d.s&&decide (d.b<=(t:Int))then some (d.s,d.b)else none
noncomputable def tkS(o:Option (String×Int))(x:String×Int):Option (String×Int):=match o with
 |none=>some x
 |some y=>if y.2<x.2 then some x else some y
noncomputable def vb(l:List (String×Int)):Option (String×Int):=l.foldl tkS none
noncomputable def nwB(row:List Int):Option Int:=(row.filter fun b=>!wht b).getLast?
noncomputable def BH(l:Option Int)(o:Option (String×Int))(h:Option String):Option (List Int):=l.bind fun l=>
 if l=34 then o.map fun x=>if x.1 = "name" then[58,48]else[]
 else if l=44 then some (if h=some "fields" then[34,34,58,48]else[48])
 else if l=58 then some [48]else some []
noncomputable def Cut(row:List Int)(T:List Tr)(t:Nat):Prop:=
 (∀ h∈hs T t,isB h=true)->hs T t≠[]->∃ p,BH (nwB (row.take t)) (vb (tl T t)) (hs T t).getLast?=some p /\ ends (tk st0 (row.take t)).1=p++(hs T t).reverse.map clo
noncomputable def Vl(p:Ph)(K:List (Bool×Nat)):Prop:=p=.val \/ (p=.emp /\ ∃ i K',K=(true,i) ::K')
noncomputable def lfN:Lf->String
 |.wd .null=>"null" | .wd .tru=>"true" | .wd .fal=>"false" | .tx _=>"text" | .nm _=>"number"
inductive Pc:List Int->List Tr->List (Bool×Nat)->Ph->Prop
 |start:Pc [] [] [] .val
 |aM {row:List Int} {T:List Tr} {K:List (Bool×Nat)} {p:Ph} {b:Int}:Pc row T K p->wht b=true->Pc (row++[b]) T K p
 |comma {row:List Int} {T:List Tr} {K:List (Bool×Nat)} {k:Bool} {i:Nat}:Pc row T ((k,i) ::K) .aft->Pc (row++[44]) T ((k,i) ::K) (if k then .val else .nam)
 |name {row:List Int} {T:List Tr} {K:List (Bool×Nat)} {p:Ph} {i:Nat} {l:List Sg}:Pc row T ((false,i) ::K) p->(p=.nam \/ p=.emp)->(∀ s∈l,Sok s)->Pc (row++txt l) (T++[⟨"name",row.length,(row++txt l).length⟩]) ((false,i) ::K) .col
 |colon {row:List Int} {T:List Tr} {K:List (Bool×Nat)}:Pc row T K .col->Pc (row++[58]) T K .val
 |opn {row:List Int} {T:List Tr} {K:List (Bool×Nat)} {p:Ph} {k:Bool}:Pc row T K p->Vl p K->K.length<=60->Pc (row++[if k then 91 else 123]) (T++[⟨kNm k,row.length,0⟩]) ((k,T.length) ::K) .emp
 |leaf {row:List Int} {T:List Tr} {K:List (Bool×Nat)} {p:Ph} {x:Lf}:Pc row T K p->Vl p K->Lok x->Pc (row++lfb x) (T++[⟨lfN x,row.length,(row++lfb x).length⟩]) K .aft
 |close {row:List Int} {T:List Tr} {K:List (Bool×Nat)} {p:Ph} {k:Bool} {i:Nat}:Pc row T ((k,i) ::K) p->(p=.emp \/ p=.aft)->Pc (row++[if k then 93 else 125]) (T.modify i fun d=>{ d with b:=row.length+1 }) K .aft
noncomputable def Opn:List (Bool×Nat)->List Tr->Prop
 |[],T=>∀ d∈T,d.b≠0
 |(k,i) ::K,T=>∃ A d C,T=A++d ::C /\ A.length=i /\ d.b=0 /\ d.s=kNm k /\ (∀ x∈C,x.b≠0) /\ Opn K A
theorem Opn.app{K:List (Bool×Nat)}{T X:List Tr}(h:Opn K T)(hx:∀ x∈X,x.b≠0):Opn K (T++X):=by
 cases K with
 | nil=>
   intro d hd
   rcases List.mem_append.mp hd with z|z
   . exact h d z
   . exact hx d z
 | cons ki K=>
   obtain⟨A,d,C,e,h1,h2,h3,h4,h5⟩:=h
   refine⟨A,d,C++X,by rw[e];simp,h1,h2,h3,fun x hxx=>?_,h5⟩
   rcases List.mem_append.mp hxx with z|z
   . exact h4 x z
   . exact hx x z
noncomputable def op0(T:List Tr):List String:=T.filterMap fun d=>if d.b=0 then some d.s else none
theorem wo{T:List Tr}(h:∀ d∈T,d.b≠0):op0 T=[]:=by
 unfold op0;rw[List.filterMap_eq_nil_iff];intro d hd;rw[if_neg (h d hd)]
theorem Opn.op0:∀{K:List (Bool×Nat)} {T:List Tr},Opn K T->op0 T=(K.map fun x=>kNm x.1).reverse
 |[],T,h=>wo h
 | (k,i) ::K,T,⟨A,d,C,e,h1,h2,h3,h4,h5⟩=>by
   have:=Opn.op0 h5;have hc:=wo h4
   unfold PG.op0 at this hc ⊢
   rw[e,List.filterMap_append,List.filterMap_cons,this,hc];simp[h2,h3]
theorem pX{α:Type}{f g:Tr->Option α}:∀{l:List Tr},(∀ d∈l,f d=g d)->l.filterMap f=l.filterMap g
 |[],_=>rfl
 |d ::l,h=>by rw[List.filterMap_cons,List.filterMap_cons,h d List.mem_cons_self,pX fun x hx=>h x (List.mem_cons_of_mem _ hx)]
theorem DC{T:List Tr}{n:Nat}(h:∀ d∈T,d.a<n /\ d.b<=n):hs T n=op0 T:=by
 unfold hs op0
 refine pX fun d hd=>?_
 have:=h d hd
 have e:hld n d=decide (d.b=0):=by
  unfold hld
  by_cases z:d.b=0
  . simp[z,this.1]
  . have:¬ (n:Int)<d.b:=by omega
    simp[z,this]
 rw[e]
 by_cases z:d.b=0<;>simp[z]
theorem vA{T:List Tr}{d:Tr}{t:Nat}(h:(t:Int)<=d.a):hs (T++[d]) t=hs T t:=by
 unfold hs;rw[List.filterMap_append]
 have:hld t d=false:=by unfold hld;simp;omega
 simp[this]
theorem vE{T:List Tr}{d:Tr}{t:Nat}(h:isT d.s=false \/ (t:Int)<d.b):tl (T++[d]) t=tl T t:=by
 unfold tl;rw[List.filterMap_append]
 have:(isT d.s&&decide (d.b<=t))=false:=by
  rcases h with z|z
  . rw[z];rfl
  . rw[Bool.and_eq_false_iff];right;simpa using z
 rw[List.filterMap_cons,this];exact List.append_nil _
theorem wA(k:Bool):isT (kNm k)=false:=by cases k<;>rfl
theorem FF(k:Bool):isB (kNm k)=true:=by cases k<;>rfl
theorem vL{A C:List Tr}{d:Tr}{f:Tr->Tr}{i:Nat}(h:A.length=i):(A++d ::C).modify i f=A++f d ::C:=by
 subst h
 induction A with
 |nil=>rfl
 |cons x A ih=>simp[ih]
theorem zE{row x:List Int}{T T':List Tr}{t:Nat}(ht:t<=row.length)(h1:hs T' t=hs T t)(h2:tl T' t=tl T t)(h:Cut row T t):Cut (row++x) T' t:=by
 unfold Cut at h ⊢
 rw[h1,h2,List.take_append_of_le_length ht];exact h
noncomputable def sta:Ph->List Bool->List It
 |.emp,k ::K=>stk k true K
 |.emp,[]=>[]
 |.aft,K=>out K
 |.val,K=>.aM ::.value ::out K
 |.nam,K=>.aM ::.name ::.aM ::.sp 58 58 ::.aM ::.value ::out K
 |.col,K=>.aM ::.sp 58 58 ::.aM ::.value ::out K
noncomputable def pre:Ph->List Int
 |.emp=>[]|.aft=>[]|.val=>[48]|.nam=>[34,34,58,48]|.col=>[58,48]
noncomputable def bks(K:List (Bool×Nat)):List Bool:=K.map Prod.fst
theorem ic:∀ K:List Bool,ends (out K)=K.map fun k=>if k then 93 else 125
 |[]=>rfl
 | k ::K=>by
   have:=ic K;unfold out;rw[eR,eR,this]
   cases k<;>rfl
theorem ym(p:Ph)(K:List Bool)(h:p=.emp->K≠[]):ends (sta p K)=pre p++K.map fun k=>if k then 93 else 125:=by
 cases p with
 | emp=>
   cases K with
   |nil=>exact absurd rfl (h rfl)
   |cons k K=>unfold sta stk;rw[eR,eR,ic];cases k<;>rfl
 |aft=>exact ic K
 |val=>unfold sta;rw[eR,eR,ic];rfl
 |nam=>unfold sta;simp only[eR,ic];rfl
 |col=>unfold sta;simp only[eR,ic];rfl
theorem qe:∀{ls st:List It},ls.all loose=true->ends (ls++st)=ends st
 |[],_,_=>rfl
 | it ::ls,st,h=>by
   rw[List.all_cons,Bool.and_eq_true]at h;rw[List.cons_append,eR,xJ.mpr h.1,qe h.2];rfl
structure Inv(row:List Int)(T:List Tr)(K:List (Bool×Nat))(p:Ph):Prop where
 dep:K.length<=61
 w1:p=.aft->Gs st0 row (out (bks K))
 w2:p≠.aft->Goes st0 row (sta p (bks K))
 ph:p=.nam->∃ i K',K=(false,i) ::K'
 pe:p=.emp->K≠[]
 op:Opn K T
 bd:∀ d∈T,d.a<row.length /\ d.b<=row.length
 pr:K≠[]->BH (nwB row) (vb (tl T row.length)) (K.head?.map fun x=>kNm x.1)=some (pre p)
 ct:∀ t<row.length,Cut row T t
theorem pH{row:List Int}{st:List It}(h:Goes st0 row st):tk st0 row=(st,row.length):=by
 have:=h [];rw[List.append_nil]at this;rw[this];simp[tk]
theorem Inv.ends{row:List Int}{T:List Tr}{K:List (Bool×Nat)}{p:Ph}(h:Inv row T K p):ends (tk st0 row).1=pre p++(bks K).map fun k=>if k then 93 else 125:=by
 by_cases e:p=.aft
 . obtain⟨ls,h1,h2⟩:=h.w1 e;rw[pH h2,qe (Al h1),ic,e];rfl
 . rw[pH (h.w2 e),ym];intro z y;exact h.pe z (by simpa [bks]using y)
theorem DE{row:List Int}{T:List Tr}{K:List (Bool×Nat)}{p:Ph}(h:Inv row T K p):hs T row.length=(K.map fun x=>kNm x.1).reverse:=by
 rw[DC h.bd,h.op.op0]
theorem Inv.now{row:List Int}{T:List Tr}{K:List (Bool×Nat)}{p:Ph}(h:Inv row T K p):Cut row T row.length:=by
 intro _ hne
 rw[DE h]at hne ⊢
 have hK:K≠[]:=by intro z;rw[z]at hne;exact hne rfl
 refine⟨pre p,?_,?_⟩
 . rw[List.take_length,List.getLast?_reverse,List.head?_map];exact h.pr hK
 . rw[List.take_length,h.ends,List.reverse_reverse];unfold bks;rw[List.map_map,List.map_map]
   congr 1
   refine List.map_congr_left fun x _=>?_
   show(if x.1 then(93:Int)else 125)=clo (kNm x.1)
   cases x.1<;>rfl
theorem Inv.le{row:List Int}{T:List Tr}{K:List (Bool×Nat)}{p:Ph}(h:Inv row T K p)(t:Nat)(ht:t<=row.length):Cut row T t:=by
 rcases Nat.lt_or_eq_of_le ht with z|z
 . exact h.ct t z
 . rw[z];exact h.now
theorem r9{row x:List Int}{T T':List Tr}{K:List (Bool×Nat)}{p:Ph}(h:Inv row T K p)(hs1:∀ t,t<=row.length->hs T' t=hs T t /\ tl T' t=tl T t)(hin:∀ t,row.length<t->t<(row++x).length->Cut (row++x) T' t):∀ t<(row++x).length,Cut (row++x) T' t:=by
 intro t ht
 by_cases z:t<=row.length
 . exact zE z (hs1 t z).1 (hs1 t z).2 (h.le t z)
 . exact hin t (by omega) ht
theorem nh{row:List Int}{b:Int}{T T':List Tr}{K:List (Bool×Nat)}{p:Ph}(h:Inv row T K p)(hs1:∀ t,t<=row.length->hs T' t=hs T t /\ tl T' t=tl T t):∀ t<(row++[b]).length,Cut (row++[b]) T' t:=
 r9 h hs1 fun t h1 h2=>by simp at h2;omega
theorem zw{row x:List Int}{T:List Tr}{s:String}{t:Nat}(hb:isB s=false)(h1:row.length<t)(h2:t<(row++x).length):Cut (row++x) (T++[⟨s,row.length,(row++x).length⟩]) t:=by
 intro hall _
 have:s∈hs (T++[⟨s,row.length,(row++x).length⟩]) t:=by
  unfold hs;rw[List.filterMap_append,List.mem_append];right
  have:hld t ⟨s,row.length,(row++x).length⟩=true:=by
   unfold hld;simp only[Bool.and_eq_true,Bool.or_eq_true,decide_eq_true_eq];omega
  rw[List.filterMap_cons,this];exact List.mem_cons_self
 rw[hall s this]at hb;cases hb
theorem Cu{T:List Tr}{n m:Nat}(h:∀ d∈T,d.a<n /\ d.b<=n)(hm:n<=m):tl T m=tl T n:=by
 unfold tl
 refine pX fun d hd=>?_
 have:=h d hd
 have e1:decide (d.b<=(m:Int))=true:=by simp;omega
 have e2:decide (d.b<=(n:Int))=true:=by simp;omega
 rw[e1,e2]
theorem zF(l:List (String×Int)):∀ y,vb l=some y->y∈l:=by
 unfold vb
 have:∀(l:List (String×Int)) (o:Option (String×Int)) (y:String×Int),l.foldl tkS o=some y->y∈l \/ o=some y:=by
  intro l
  induction l with
  |nil=>intro o y h;exact .inr h
  | cons x l ih=>
    intro o y h;rw[List.foldl_cons]at h
    rcases ih _ y h with z|z
    . exact .inl (List.mem_cons_of_mem _ z)
    . unfold tkS at z;split at z
      . cases z;exact .inl List.mem_cons_self
      . split at z
        . cases z;exact .inl List.mem_cons_self
        . exact .inr z
 intro y h
 rcases this l none y h with z|z
 . exact z
 . cases z
theorem xh{l:List (String×Int)}{x:String×Int}(h:∀ y∈l,y.2<x.2):vb (l++[x])=some x:=by
 have hm:=zF l
 unfold vb at hm ⊢
 rw[List.foldl_append]
 cases e:l.foldl tkS none with
 |none=>rfl
 |some y=>simp only[List.foldl_cons,List.foldl_nil,tkS];rw[if_pos (h y (hm y e))]
theorem v7{row x:List Int}{T:List Tr}{s:String}(h:∀ d∈T,d.a<row.length /\ d.b<=row.length)(hs:isT s=true)(hx:x≠[]):vb (tl (T++[⟨s,row.length,(row++x).length⟩]) (row++x).length)=some (s,((row++x).length:Int)):=by
 have hl:row.length<(row++x).length:=by
  have:=List.length_pos_iff.mpr hx
  simp;omega
 have e:tl (T++[⟨s,row.length,(row++x).length⟩]) (row++x).length=tl T row.length++[(s,((row++x).length:Int))]:=by
  rw[<- Cu h (Nat.le_of_lt hl)];unfold tl;rw[List.filterMap_append]
  congr 1
  simp[hs]
 rw[e]
 refine xh fun y hy=>?_
 unfold tl at hy;rw[List.mem_filterMap]at hy;obtain⟨d,hd,hd2⟩:=hy;split at hd2
 . cases hd2;have:=h d hd;simp only;omega
 . cases hd2
theorem xQ(row:List Int)(b:Int)(hw:wht b=true):nwB (row++[b])=nwB row:=by
 unfold nwB;rw[List.filter_append];simp[hw]
theorem gX(row:List Int)(b:Int)(hb:wht b=false):nwB (row++[b])=some b:=by
 unfold nwB;rw[List.filter_append];simp[hb]
theorem len_app(row:List Int)(b:Int):(row++[b]).length=row.length+1:=by simp
theorem la{row x:List Int}{T:List Tr}(h:∀ d∈T,d.a<row.length /\ d.b<=row.length):∀ d∈T,d.a<(row++x).length /\ d.b<=(row++x).length:=fun d hd=>by
 have:=h d hd;rw[List.length_append];omega
theorem FN(st:List It):cnt (.aM ::st)=cnt st:=by rw[cnt_cons];simp[PG.opn]
theorem B8{p:Ph}{K:List Bool}(hK:K.length<=62)(he:p=.emp->K≠[]):∃ st,sta p K=.aM ::st /\ cnt st<=64:=by
 have ho:=fO K
 cases p with
 | emp=>
   cases K with
   |nil=>exact absurd rfl (he rfl)
   | cons k K=>
     refine⟨_,rfl,?_⟩
     have:=fO K;rw[cnt_cons,this];simp only[List.length_cons]at hK
     split<;>omega
 | aft=>
   cases K with
   |nil=>exact⟨[],rfl,by decide⟩
   | cons k K=>
     refine⟨_,rfl,?_⟩
     have:cnt (out (k ::K))=cnt (.aM ::(if k then It.mrow else It.mfields) ::out K):=rfl
     rw[FN]at this;rw[<- this,ho];omega
 |val=>exact⟨_,rfl,by rw[cnt_cons,ho];simp[PG.opn];omega⟩
 |nam=>exact⟨_,rfl,by simp only[cnt_cons,ho];simp[PG.opn];omega⟩
 |col=>exact⟨_,rfl,by simp only[cnt_cons,ho];simp[PG.opn];omega⟩
theorem iR(K:List (Bool×Nat)):(bks K).length=K.length:=by simp[bks]
theorem Inv.aM{row:List Int}{T:List Tr}{K:List (Bool×Nat)}{p:Ph}{b:Int}(h:Inv row T K p)(hb:wht b=true):Inv (row++[b]) T K p:=by
 have hd:=h.dep
 have hK:(bks K).length<=62:=by rw[iR];omega
 have hw:∀ c∈[b],wht c=true:=fun c hc=>by simp at hc;rw[hc];exact hb
 refine⟨hd,fun e=>?_,fun e=>?_,h.ph,h.pe,h.op,la h.bd,fun hn=>?_,nh h fun t _=>⟨rfl,rfl⟩⟩
 . obtain⟨st,e1,e2⟩:=B8 (p:=.aft) hK (fun z=>by cases z);have:=h.w1 e
   change out (bks K)=_ at e1
   rw[e1]at this ⊢
   exact this.aM e2 hw
 . obtain⟨st,e1,e2⟩:=B8 (p:=p) hK (fun z y=>h.pe z (by simpa [bks]using y));have:=h.w2 e
   rw[e1]at this ⊢
   exact this.trans (jN e2 [b] hw)
 . rw[xQ _ _ hb,Cu h.bd (by simp)];exact h.pr hn
theorem Inv.comma{row:List Int}{T:List Tr}{K:List (Bool×Nat)}{k:Bool}{i:Nat}(h:Inv row T ((k,i) ::K) .aft):Inv (row++[44]) T ((k,i) ::K) (if k then .val else .nam):=by
 have hd:=h.dep;simp only[List.length_cons]at hd
 have hK:(bks K).length<64:=by rw[iR];omega
 have hw:=h.w1 rfl
 refine⟨h.dep,fun e=>?_,fun e=>?_,fun e=>?_,fun e=>(by simp),h.op,la h.bd,fun hn=>?_,nh h fun t _=>⟨rfl,rfl⟩⟩
 . cases k<;>cases e
 . cases k with
   |true=>exact Gs.yd (fs:=bks K) hw hK
   |false=>exact Gs.su (fs:=bks K) hw hK
 . cases k with
   |true=>cases e
   |false=>exact⟨i,K,rfl⟩
 . rw[gX _ _ rfl]
   cases k<;>simp[BH,kNm,pre]
theorem vU(row:List Int)(l:List Sg):nwB (row++txt l)=some 34:=by
 have:row++txt l=(row++34 ::inner l)++[34]:=by simp[txt]
 rw[this,gX _ _ rfl]
theorem Inv.name{row:List Int}{T:List Tr}{K:List (Bool×Nat)}{p:Ph}{i:Nat}{l:List Sg}(h:Inv row T ((false,i) ::K) p)(hp:p=.nam \/ p=.emp)(hl:∀ s∈l,Sok s):Inv (row++txt l) (T++[⟨"name",row.length,(row++txt l).length⟩]) ((false,i) ::K) .col:=by
 have hd:=h.dep;simp only[List.length_cons]at hd
 have hK:(bks K).length<64:=by rw[iR];omega
 have hx:txt l≠[]:=by simp[txt]
 have hlen:row.length<(row++txt l).length:=by simp[txt]
 refine⟨h.dep,fun e=>(by cases e),fun _=>?_,fun e=>(by cases e),fun e=>(by cases e),?_,?_,fun _=>?_,?_⟩
 . rcases hp with z|z
   . subst z
     have hc:cnt (.aM ::.sp 58 58 ::.aM ::.value ::out (bks ((false,i) ::K)))<=64:=by
      have:=fO (bks ((false,i) ::K));simp only[cnt_cons,this,iR];simp[PG.opn];omega
     exact(h.w2 (by simp)).trans (.past rfl (xR hc l hl))
   . subst z
     exact(h.w2 (by simp)).trans (.past rfl (tS (fs:=bks K) hK l hl))
 . refine h.op.app fun x hxx=>?_
   simp only[List.mem_singleton]at hxx;rw[hxx];simp only;omega
 . intro d hdd
   rcases List.mem_append.mp hdd with z|z
   . exact la h.bd d z
   . simp only[List.mem_singleton]at z;rw[z];simp only;omega
 . rw[vU,v7 h.bd rfl hx];rfl
 . refine r9 h (fun t ht=>⟨vA (by simp only;omega),vE (.inr (by simp only;omega))⟩) fun t h1 h2=>zw rfl h1 h2
theorem Inv.colon{row:List Int}{T:List Tr}{K:List (Bool×Nat)}(h:Inv row T K .col):Inv (row++[58]) T K .val:=by
 have hd:=h.dep
 have hc:cnt (.value ::out (bks K))<=64:=by
  have:=fO (bks K);rw[cnt_cons,this,iR];simp[PG.opn];omega
 refine⟨hd,fun e=>(by cases e),fun _=>?_,fun e=>(by cases e),fun e=>(by cases e),h.op,la h.bd,fun _=>?_,nh h fun t _=>⟨rfl,rfl⟩⟩
 . exact(h.w2 (by simp)).trans (vw (ws:=[]) hc (fun _ z=>by cases z))
 . rw[gX _ _ rfl];rfl
theorem Inv.rdy{row:List Int}{T:List Tr}{K:List (Bool×Nat)}{p:Ph}(h:Inv row T K p)(hv:Vl p K){b:Int}{bs:List Int}{c:List It}(k:Goes (.value ::out (bks K)) (b ::bs) c):Goes st0 (row++b ::bs) c:=by
 obtain⟨l,hl⟩:=xU k
 rcases hv with z|⟨z,i,K',e⟩
 . subst z
   exact(h.w2 (by simp)).trans (.past (va hl).1 k)
 . subst z;subst e
   exact(h.w2 (by simp)).trans (.past (va hl).1 (uQ (fs:=bks K') hl (va hl).2 k))
theorem Inv.opn{row:List Int}{T:List Tr}{K:List (Bool×Nat)}{p:Ph}{k:Bool}(h:Inv row T K p)(hv:Vl p K)(hK:K.length<=60):Inv (row++[if k then 91 else 123]) (T++[⟨kNm k,row.length,0⟩]) ((k,T.length) ::K) .emp:=by
 refine⟨by simp;omega,fun e=>(by cases e),fun _=>?_,fun e=>(by cases e),fun _=>(by simp),⟨T,_,[],rfl,rfl,rfl,rfl,fun x hx=>(by cases hx),h.op⟩,?_,fun _=>?_,?_⟩
 . exact h.rdy hv (xg (fs:=bks K) k (by rw[iR];omega))
 . intro d hdd
   rcases List.mem_append.mp hdd with z|z
   . exact la h.bd d z
   . simp only[List.mem_singleton]at z;rw[z,len_app];simp only;omega
 . rw[gX _ _ (by cases k<;>rfl)]
   cases k<;>rfl
 . exact nh h fun t ht=>⟨vA (by simp only;omega),vE (.inl (wA k))⟩
theorem Ai{m:Nm}(h:Nok m):∀ b∈nb m,43<=b /\ b≠44 /\ b≠58:=by
 have hF:∀ b:Int,isF b->43<=b /\ b≠44 /\ b≠58:=fun b hb=>by unfold isF at hb;omega
 intro b hb;unfold nb at hb;simp only[List.mem_append]at hb
 rcases hb with z|z|z|z
 . split at z
   . simp at z;omega
   . cases z
 . rcases h.ip with e|⟨d,r,e,h1,h2,h3⟩
   . rw[e]at z;simp at z;omega
   . rw[e,List.mem_cons]at z
     rcases z with z|z
     . omega
     . exact hF b (h3 b z)
 . unfold frB at z;split at z
   . cases z
   . rw[List.mem_cons]at z
     rcases z with z|z
     . omega
     . exact hF b (h.fr b z)
 . cases e:m.ex with
   |none=>rw[e]at z;cases z
   | some q=>
     obtain⟨x,s,ds⟩:=q;obtain⟨h1,h2,_,h3⟩:=h.ex x s ds e;rw[e]at z;simp only[exB,List.mem_cons,List.mem_append]at z
     rcases z with z|z|z
     . omega
     . rcases h2 with y|y|y<;>rw[y]at z<;>simp at z<;>omega
     . exact hF b (h3 b z)
theorem Ar(x:Lf)(hx:Lok x)(row:List Int):∃ b,nwB (row++lfb x)=some b /\ ((b=34 /\ lfN x = "text") \/ (b≠34 /\ b≠44 /\ b≠58)):=by
 cases x with
 | wd w=>
   cases w
   . exact⟨108,by rw[show row++lfb (.wd .null)=(row++[110,117,108])++[108] by simp[lfb,wdb],gX _ _ rfl],.inr (by decide)⟩
   . exact⟨101,by rw[show row++lfb (.wd .tru)=(row++[116,114,117])++[101] by simp[lfb,wdb],gX _ _ rfl],.inr (by decide)⟩
   . exact⟨101,by rw[show row++lfb (.wd .fal)=(row++[102,97,108,115])++[101] by simp[lfb,wdb],gX _ _ rfl],.inr (by decide)⟩
 |tx l=>exact⟨34,vU row l,.inl ⟨rfl,rfl⟩⟩
 | nm m=>
   have hne:=vQ (.nm m) hx
   have e:lfb (.nm m)=(lfb (.nm m)).dropLast++[(lfb (.nm m)).getLast hne]:=(List.dropLast_concat_getLast hne).symm
   have hb:=Ai hx _ (List.getLast_mem hne)
   refine⟨(lfb (.nm m)).getLast hne,?_,.inr (by omega)⟩
   conv=>lhs;rw[e]
   rw[<- List.append_assoc,gX];unfold wht;simp only[Bool.or_eq_false_iff,decide_eq_false_iff_not];omega
theorem Cy(x:Lf):isB (lfN x)=false:=by
 cases x with
 |wd w=>cases w<;>rfl
 |tx l=>rfl
 |nm m=>rfl
theorem Inv.leaf{row:List Int}{T:List Tr}{K:List (Bool×Nat)}{p:Ph}{x:Lf}(h:Inv row T K p)(hv:Vl p K)(hx:Lok x):Inv (row++lfb x) (T++[⟨lfN x,row.length,(row++lfb x).length⟩]) K .aft:=by
 have hd:=h.dep;have hne:=vQ x hx
 have hlen:row.length<(row++lfb x).length:=by
  have:=List.length_pos_iff.mpr hne
  simp;omega
 refine⟨hd,fun _=>?_,fun e=>absurd rfl e,fun e=>(by cases e),fun e=>(by cases e),?_,?_,fun hn=>?_,?_⟩
 . obtain⟨ls,h1,h2⟩:=BU (st:=out (bks K)) (by rw[fO,iR];omega) x hx
   refine⟨ls,h1,?_⟩
   cases q:lfb x with
   |nil=>exact absurd q hne
   |cons b bs=>rw[q]at h2;exact h.rdy hv h2
 . refine h.op.app fun y hy=>?_
   simp only[List.mem_singleton]at hy;rw[hy];simp only;omega
 . intro d hdd
   rcases List.mem_append.mp hdd with z|z
   . exact la h.bd d z
   . simp only[List.mem_singleton]at z;rw[z];simp only;omega
 . obtain⟨b,e1,e2⟩:=Ar x hx row;rw[e1]
   rcases e2 with⟨rfl,e3⟩|⟨n1,n2,n3⟩
   . rw[v7 h.bd (by rw[e3];rfl) hne,e3];rfl
   . simp[BH,n1,n2,n3,pre]
 . exact r9 h (fun t ht=>⟨vA (by simp only;omega),vE (.inr (by simp only;omega))⟩) fun t h1 h2=>zw (Cy x) h1 h2
theorem Inv.close{row:List Int}{T:List Tr}{K:List (Bool×Nat)}{p:Ph}{k:Bool}{i:Nat}(h:Inv row T ((k,i) ::K) p)(hp:p=.emp \/ p=.aft):Inv (row++[if k then 93 else 125]) (T.modify i fun d=>{ d with b:=row.length+1 }) K .aft:=by
 have hd:=h.dep;simp only[List.length_cons]at hd;obtain⟨A,d,C,rfl,h1,h2,h3,h4,h5⟩:=h.op;rw[vL h1]
 have hK:(bks K).length<=64:=by rw[iR];omega
 refine⟨by omega,fun _=>.of ?_,fun e=>absurd rfl e,fun e=>(by cases e),fun e=>(by cases e),?_,?_,fun _=>?_,?_⟩
 . rcases hp with z|z
   . subst z;exact Gs.close (fs:=bks K) k true (.of (h.w2 (by simp))) hK
   . subst z;refine Gs.close (fs:=bks K) k false ?_ hK;have:=h.w1 rfl
     cases k<;>exact this
 . refine h5.app fun x hx=>?_
   rcases List.mem_cons.mp hx with z|z
   . rw[z];simp only;omega
   . exact h4 x z
 . intro x hx;rw[len_app]
   rcases List.mem_append.mp hx with z|z
   . have:=h.bd x (List.mem_append.mpr (.inl z));omega
   . rcases List.mem_cons.mp z with z|z
     . have:=h.bd d (by simp);rw[z];simp only;omega
     . have:=h.bd x (by simp[z]);omega
 . rw[gX _ _ (by cases k<;>rfl)]
   cases k<;>rfl
 . refine nh h fun t ht=>⟨?_,?_⟩
   . unfold hs;rw[List.filterMap_append,List.filterMap_append,List.filterMap_cons,List.filterMap_cons]
     have:hld t { d with b:=row.length+1 }=hld t d:=by
      unfold hld
      have z:¬ ((row.length:Int)+1=0):=by omega
      have z2:(t:Int)<row.length+1:=by omega
      simp[h2,z,z2]
     rw[this]
   . unfold tl;rw[List.filterMap_append,List.filterMap_append,List.filterMap_cons,List.filterMap_cons]
     have:isT d.s=false:=by rw[h3];exact wA k
     simp only[this,Bool.false_and,Bool.false_eq_true,if_false]
theorem Pc.inv{row:List Int}{T:List Tr}{K:List (Bool×Nat)}{p:Ph}(h:Pc row T K p):Inv row T K p:=by
 induction h with
 |start=>exact⟨by simp,fun e=>(by cases e),fun _=>Goes.nil _,fun e=>(by cases e),fun e=>(by cases e),(fun d hd=>by cases hd),(fun d hd=>by cases hd),fun e=>absurd rfl e,fun t ht=>by simp at ht⟩
 |aM _ hb ih=>exact ih.aM hb
 |comma _ ih=>exact ih.comma
 |name _ hp hl ih=>exact ih.name hp hl
 |colon _ ih=>exact ih.colon
 |opn _ hv hK ih=>exact ih.opn hv hK
 |leaf _ hv hx ih=>exact ih.leaf hv hx
 |close _ hp ih=>exact ih.close hp
structure Ms where
 ins:Bool
 tk:Bool
 rn:Bool
noncomputable def m0:Ms:=⟨false,false,false⟩
noncomputable def mrk(b:Int):Bool:=decide (b=44)||(decide (b=58)||(decide (b=91)||(decide (b=93)||(decide (b=123)||decide (b=125)))))
noncomputable def mst(s:Ms)(b:Int):Ms:=
 if s.ins=true then⟨s.tk||decide (b≠34),decide (b=92) && !s.tk,false⟩
 else if wht b=true then⟨false,s.tk,false⟩else if b=34 then⟨true,s.tk,false⟩else if mrk b=true then⟨false,s.tk,false⟩else⟨false,s.tk,true⟩
noncomputable def mem(s:Ms)(b:Int):Bool:=
 if s.ins=true then false else if wht b=true then false else if b=34 then true else if mrk b=true then true else !s.rn
noncomputable def mkl:Ms->Nat->List Int->List Int
 |_,_,[]=>[]
 |s,i,b ::r=>if mem s b=true then(i:Int) ::mkl (mst s b) (i+1) r else mkl (mst s b) (i+1) r
noncomputable def mss(s:Ms)(l:List Int):Ms:=l.foldl mst s
theorem mW(s:Ms)(xs ys:List Int):mss s (xs++ys)=mss (mss s xs) ys:=by unfold mss;rw[List.foldl_append]
theorem nU:∀(xs ys:List Int) (s:Ms) (i:Nat),mkl s i (xs++ys)=mkl s i xs++mkl (mss s xs) (i+xs.length) ys
 |[],ys,s,i=>by simp[mkl,mss]
 | b ::xs,ys,s,i=>by
   have ih:=nU xs ys (mst s b) (i+1);rw[List.cons_append,mkl,mkl,ih,show i+1+xs.length=i+(b ::xs).length by simp;omega]
   split<;>rfl
theorem CK:∀(l:List Int) (s:Ms) (i:Nat) (m:Int),m∈mkl s i l->(i:Int)<=m /\ m<i+l.length
 |[],s,i,m,h=>by cases h
 | b ::l,s,i,m,h=>by
   rw[mkl]at h
   have key:m∈mkl (mst s b) (i+1) l->(i:Int)<=m /\ m<i+(b ::l).length:=fun z=>by
    have:=CK l _ _ m z;simp only[List.length_cons];omega
   split at h
   . rcases List.mem_cons.mp h with z|z
     . rw[z];simp only[List.length_cons];omega
     . exact key z
   . exact key h
theorem qT:∀(l:List Int) (s:Ms) (i:Nat),(mkl s i l).Pairwise (·<·)
 |[],s,i=>.nil
 | b ::l,s,i=>by
   have ih:=qT l (mst s b) (i+1);rw[mkl];split
   . refine List.pairwise_cons.mpr ⟨fun m hm=>?_,ih⟩;have:=CK l _ _ m hm;omega
   . exact ih
theorem Eb{xs:List Int}(h:Skp xs):∀ i,mkl ⟨true,false,false⟩ i xs=[] /\ mss ⟨true,false,false⟩ xs=⟨true,false,false⟩:=by
 induction h with
 |nil=>intro i;exact⟨rfl,rfl⟩
 | @one b r h1 h2 _ ih=>
   intro i
   have e:mst ⟨true,false,false⟩ b=⟨true,false,false⟩:=by simp[mst,h1,h2]
   refine⟨by rw[mkl,e,(ih (i+1)).1];rfl,?_⟩
   show mss (mst ⟨true,false,false⟩ b) r=_;rw[e,(ih 0).2]
 | @two c r _ ih=>
   intro i
   have e1:mst ⟨true,false,false⟩ 92=⟨true,true,false⟩:=by simp[mst]
   have e2:mst ⟨true,true,false⟩ c=⟨true,false,false⟩:=by simp[mst]
   refine⟨by rw[mkl,mkl,e1,e2,(ih (i+1+1)).1];rfl,?_⟩
   show mss (mst (mst ⟨true,false,false⟩ 92) c) r=_;rw[e1,e2,(ih 0).2]
theorem Ed(l:List Sg)(h:∀ s∈l,Sok s)(rn:Bool)(i:Nat):mkl ⟨false,false,rn⟩ i (txt l)=[(i:Int)] /\ mss ⟨false,false,rn⟩ (txt l)=m0:=by
 have hs:=Eb (xE l h)
 have e1:mst ⟨false,false,rn⟩ 34=⟨true,false,false⟩:=by simp[mst,wht]
 have e2:mem ⟨false,false,rn⟩ 34=true:=by simp[mem,wht]
 have e3:mst ⟨true,false,false⟩ 34=m0:=by simp[mst,m0]
 have e4:mem ⟨true,false,false⟩ 34=false:=by simp[mem]
 constructor
 . rw[txt,mkl,e1,if_pos e2,nU,(hs _).1,(hs 0).2,mkl,e4];simp[mkl]
 . show mss (mst ⟨false,false,rn⟩ 34) (inner l++[34])=_;rw[e1,mW,(hs 0).2];exact e3
noncomputable def yP(b:Int):Prop:=wht b=false /\ b≠34 /\ mrk b=false
theorem y0:∀(l:List Int) (i:Nat) (rn:Bool),(∀ b∈l,yP b)->l≠[]->mkl ⟨false,false,rn⟩ i l=(if rn then[]else[(i:Int)]) /\ mss ⟨false,false,rn⟩ l=⟨false,false,true⟩
 |[],_,_,_,h=>absurd rfl h
 | b ::l,i,rn,h,_=>by
   obtain⟨h1,h2,h3⟩:=h b List.mem_cons_self
   have e1:mst ⟨false,false,rn⟩ b=⟨false,false,true⟩:=by simp[mst,h1,h2,h3]
   have e2:mem ⟨false,false,rn⟩ b=!rn:=by simp[mem,h1,h2,h3]
   by_cases hl:l=[]
   . subst hl
     refine⟨by rw[mkl,e1,e2];cases rn<;>rfl,by show mst ⟨false,false,rn⟩ b=_;exact e1⟩
   . have ih:=y0 l (i+1) true (fun c hc=>h c (List.mem_cons_of_mem _ hc)) hl
     refine⟨?_,by show mss (mst ⟨false,false,rn⟩ b) l=_;rw[e1,ih.2]⟩
     rw[mkl,e1,e2,ih.1]
     cases rn<;>rfl
inductive Pn:List Int->List Tr->List (Bool×Nat)->Ph->Nat->Prop
 |start:Pn [] [] [] .val 0
 |aM {row:List Int} {T:List Tr} {K:List (Bool×Nat)} {p:Ph} {n:Nat} {b:Int}:Pn row T K p n->wht b=true->Pn (row++[b]) T K p n
 |comma {row:List Int} {T:List Tr} {K:List (Bool×Nat)} {n:Nat} {k:Bool} {i:Nat}:Pn row T ((k,i) ::K) .aft n->Pn (row++[44]) T ((k,i) ::K) (if k then .val else .nam) (n+1)
 |name {row:List Int} {T:List Tr} {K:List (Bool×Nat)} {p:Ph} {n i:Nat} {l:List Sg}:Pn row T ((false,i) ::K) p n->(p=.nam \/ p=.emp)->(∀ s∈l,Sok s)->Pn (row++txt l) (T++[⟨"name",row.length,(row++txt l).length⟩]) ((false,i) ::K) .col (n+1)
 |colon {row:List Int} {T:List Tr} {K:List (Bool×Nat)} {n:Nat}:Pn row T K .col n->Pn (row++[58]) T K .val (n+1)
 |opn {row:List Int} {T:List Tr} {K:List (Bool×Nat)} {p:Ph} {n:Nat} {k:Bool}:Pn row T K p n->Vl p K->K.length<=60->Pn (row++[if k then 91 else 123]) (T++[⟨kNm k,row.length,0⟩]) ((k,T.length) ::K) .emp (n+1)
 |leaf {row:List Int} {T:List Tr} {K:List (Bool×Nat)} {p:Ph} {n:Nat} {x:Lf}:Pn row T K p n->Vl p K->Lok x->Pn (row++lfb x) (T++[⟨lfN x,row.length,(row++lfb x).length⟩]) K .aft (n+1)
 |close {row:List Int} {T:List Tr} {K:List (Bool×Nat)} {p:Ph} {n:Nat} {k:Bool} {i:Nat}:Pn row T ((k,i) ::K) p n->(p=.emp \/ p=.aft)->Pn (row++[if k then 93 else 125]) (T.modify i fun d=>{ d with b:=row.length+1 }) K .aft (n+1)
theorem Pn.pc{row:List Int}{T:List Tr}{K:List (Bool×Nat)}{p:Ph}{n:Nat}(h:Pn row T K p n):Pc row T K p:=by
 induction h with
 |start=>exact .start
 |aM _ hb ih=>exact ih.aM hb
 |comma _ ih=>exact ih.comma
 |name _ hp hl ih=>exact ih.name hp hl
 |colon _ ih=>exact ih.colon
 |opn _ hv hK ih=>exact ih.opn hv hK
 |leaf _ hv hx ih=>exact ih.leaf hv hx
 |close _ hp ih=>exact ih.close hp
theorem Pn.jS{row:List Int}{T:List Tr}{K:List (Bool×Nat)}{p:Ph}{n:Nat}:∀{ws:List Int},Pn row T K p n->(∀ b∈ws,wht b=true)->Pn (row++ws) T K p n
 |[],h,_=>by rw[List.append_nil];exact h
 | w ::ws,h,hw=>by
   rw[show row++w ::ws=(row++[w])++ws by simp]
   exact Pn.jS (h.aM (hw w List.mem_cons_self)) fun b hb=>hw b (List.mem_cons_of_mem _ hb)
noncomputable def thd(row:List Int)(i:Int):Prop:=∃ j:Nat,(j:Int)=i /\ (row[j]?=some 44 \/ row[j]?=some 58)
noncomputable def u7(T:List Tr)(i:Int):Prop:=∀ d∈T,isT d.s=true->¬ (d.a<i /\ i<d.b)
noncomputable def MkS(row:List Int)(T:List Tr)(i:Int):Prop:=(∃ d∈T,d.a=i) \/ (∃ d∈T,isB d.s=true /\ d.b≠0 /\ d.b - 1=i) \/ (thd row i /\ u7 T i)
theorem DH{row:List Int}{i:Int}(h:thd row i):i<row.length:=by
 obtain⟨j,rfl,h⟩:=h
 have:j<row.length:=by
  rcases h with z|z<;>exact(List.getElem?_eq_some_iff.mp z).1
 omega
theorem o6{row x:List Int}{i:Int}:thd (row++x) i↔thd row i \/ ∃ j:Nat,((row.length+j:Nat):Int)=i /\ (x[j]?=some 44 \/ x[j]?=some 58):=by
 constructor
 . rintro⟨j,rfl,h⟩
   by_cases z:j<row.length
   . rw[List.getElem?_append_left z]at h;exact .inl ⟨j,rfl,h⟩
   . rw[List.getElem?_append_right (by omega)]at h;exact .inr ⟨j - row.length,by omega,h⟩
 . rintro(⟨j,rfl,h⟩|⟨j,rfl,h⟩)
   . have z:j < row.length:=by
      rcases h with z|z<;>exact(List.getElem?_eq_some_iff.mp z).1
     exact⟨j,rfl,by rw[List.getElem?_append_left z];exact h⟩
   . exact⟨row.length+j,rfl,by rw[List.getElem?_append_right (by omega),Nat.add_sub_cancel_left];exact h⟩
theorem vk{row x:List Int}{i:Int}(hx:∀ b∈x,b≠44 /\ b≠58):thd (row++x) i↔thd row i:=by
 rw[o6];constructor
 . rintro(h|⟨j,_,h⟩)
   . exact h
   . rcases h with z|z
     . exact absurd rfl (hx _ (List.mem_of_getElem? z)).1
     . exact absurd rfl (hx _ (List.mem_of_getElem? z)).2
 . exact .inl
structure MI(row:List Int)(T:List Tr)(p:Ph)(n:Nat):Prop where
 st:∃ rn,mss m0 row=⟨false,false,rn⟩ /\ (p≠.aft->rn=false)
 ct:(mkl m0 0 row).length<=n
 me:∀ i,i∈mkl m0 0 row↔MkS row T i
theorem rJ{row:List Int}{T T':List Tr}{p p':Ph}{n:Nat}{b:Int}(h:MI row T p n)(hw:wht b=false)(hb:mrk b=true)(hm:∀ i,MkS (row++[b]) T' i↔MkS row T i \/ i=row.length):MI (row++[b]) T' p' (n+1):=by
 obtain⟨rn,e1,e2⟩:=h.st
 have h34:b≠34:=by intro z;subst z;cases hb
 have s1:mst ⟨false,false,rn⟩ b=m0:=by simp[mst,hw,h34,hb,m0]
 have s2:mem ⟨false,false,rn⟩ b=true:=by simp[mem,hw,h34,hb]
 have hk:mkl m0 0 (row++[b])=mkl m0 0 row++[(row.length:Int)]:=by
  rw[nU,e1,mkl,if_pos s2,Nat.zero_add];rfl
 refine⟨⟨false,by rw[mW,e1];exact s1,fun _=>rfl⟩,by rw[hk,List.length_append];have:=h.ct;simp;omega,fun i=>?_⟩
 rw[hk,List.mem_append,h.me,hm,List.mem_singleton]
theorem MI.aM{row:List Int}{T:List Tr}{p:Ph}{n:Nat}{b:Int}(h:MI row T p n)(hb:wht b=true):MI (row++[b]) T p n:=by
 obtain⟨rn,e1,e2⟩:=h.st
 have s1:mst ⟨false,false,rn⟩ b=m0:=by simp[mst,hb,m0]
 have s2:mem ⟨false,false,rn⟩ b=false:=by simp[mem,hb]
 have hk:mkl m0 0 (row++[b])=mkl m0 0 row:=by
  rw[nU,e1,mkl,s2];simp[mkl]
 have hn:∀ c∈[b],c≠44 /\ c≠58:=fun c hc=>by
  simp only[List.mem_singleton]at hc;subst hc;unfold wht at hb;simp only[Bool.or_eq_true,decide_eq_true_eq]at hb;omega
 refine⟨⟨false,by rw[mW,e1];exact s1,fun _=>rfl⟩,by rw[hk];exact h.ct,fun i=>?_⟩
 rw[hk,h.me];unfold MkS;rw[vk hn]
theorem wR{row:List Int}{T:List Tr}{b:Int}(hb:b=44 \/ b=58)(bd:∀ d∈T,d.a<row.length /\ d.b<=row.length)(i:Int):MkS (row++[b]) T i↔MkS row T i \/ i=row.length:=by
 unfold MkS;rw[o6];constructor
 . rintro(h|h|⟨h|⟨j,e,h⟩,ho⟩)
   . exact .inl (.inl h)
   . exact .inl (.inr (.inl h))
   . exact .inl (.inr (.inr ⟨h,ho⟩))
   . have hj:j = 0:=by
      rcases h with z|z<;>(have:=(List.getElem?_eq_some_iff.mp z).1;simp at this;exact this)
     subst hj;exact .inr (by omega)
 . rintro((h|h|⟨h,ho⟩)|h)
   . exact .inl h
   . exact .inr (.inl h)
   . exact .inr (.inr ⟨.inl h,ho⟩)
   . refine .inr (.inr ⟨.inr ⟨0,by omega,?_⟩,fun d hd _ z=>?_⟩)
     . rcases hb with z|z<;>subst z<;>simp
     . have:=bd d hd;omega
theorem tK{row x:List Int}{T:List Tr}{s:String}(hB:isB s=false)(hx:x≠[])(ht:(isT s=true /\ ∀ c r,x=c ::r->c≠44 /\ c≠58) \/ ∀ b∈x,b≠44 /\ b≠58)(i:Int):MkS (row++x) (T++[⟨s,row.length,(row++x).length⟩]) i↔MkS row T i \/ i=row.length:=by
 have m1:(∃ d∈T++[(⟨s,row.length,(row++x).length⟩:Tr)],d.a=i)↔(∃ d∈T,d.a=i) \/ i=row.length:=by
  constructor
  . rintro⟨d,hd,e⟩
    rcases List.mem_append.mp hd with z|z
    . exact .inl ⟨d,z,e⟩
    . rw[List.mem_singleton]at z;subst z;exact .inr e.symm
  . rintro(⟨d,hd,e⟩|e)
    . exact⟨d,List.mem_append.mpr (.inl hd),e⟩
    . exact⟨_,List.mem_append.mpr (.inr (List.mem_singleton.mpr rfl)),e.symm⟩
 have m2:(∃ d∈T++[(⟨s,row.length,(row++x).length⟩:Tr)],isB d.s=true /\ d.b≠0 /\ d.b - 1=i)↔(∃ d∈T,isB d.s=true /\ d.b≠0 /\ d.b - 1=i):=by
  constructor
  . rintro⟨d,hd,e⟩
    rcases List.mem_append.mp hd with z|z
    . exact⟨d,z,e⟩
    . rw[List.mem_singleton]at z;subst z;rw[hB]at e;cases e.1
  . rintro⟨d,hd,e⟩
    exact⟨d,List.mem_append.mpr (.inl hd),e⟩
 have m3:(thd (row++x) i /\ u7 (T++[(⟨s,row.length,(row++x).length⟩:Tr)]) i)↔(thd row i /\ u7 T i):=by
  constructor
  . rintro⟨h,ho⟩
    refine⟨?_,fun d hd=>ho d (List.mem_append.mpr (.inl hd))⟩
    rcases o6.mp h with z|⟨j,e,z⟩
    . exact z
    . exfalso
      have hj:j<x.length:=by rcases z with z|z<;>exact(List.getElem?_eq_some_iff.mp z).1
      rcases ht with⟨hT,h0⟩|hn
      . cases j with
        | zero=>
          cases x with
          |nil=>exact hx rfl
          |cons c r=>have:=h0 c r rfl;rcases z with z|z<;>(simp at z;omega)
        | succ j=>
          refine ho _ (List.mem_append.mpr (.inr (List.mem_singleton.mpr rfl))) hT ⟨?_,?_⟩
          . show(row.length:Int)<i;omega
          . show i<((row++x).length:Int);rw[List.length_append];omega
      . rcases z with z|z
        . exact(hn _ (List.mem_of_getElem? z)).1 rfl
        . exact(hn _ (List.mem_of_getElem? z)).2 rfl
  . rintro⟨h,ho⟩
    refine⟨o6.mpr (.inl h),fun d hd=>?_⟩
    rcases List.mem_append.mp hd with z|z
    . exact ho d z
    . rw[List.mem_singleton]at z;subst z;intro _ y;have:=DH h
      have y1:(row.length:Int)<i:=y.1
      omega
 unfold MkS;rw[m1,m2,m3];constructor
 . rintro((h|h)|h|h)
   . exact .inl (.inl h)
   . exact .inr h
   . exact .inl (.inr (.inl h))
   . exact .inl (.inr (.inr h))
 . rintro((h|h|h)|h)
   . exact .inl (.inl h)
   . exact .inr (.inl h)
   . exact .inr (.inr h)
   . exact .inl (.inr h)
theorem AW{row:List Int}{T:List Tr}{k:Bool}(i:Int):MkS (row++[if k then 91 else 123]) (T++[⟨kNm k,row.length,0⟩]) i↔MkS row T i \/ i=row.length:=by
 have hn:∀ c∈[if k then(91:Int)else 123],c≠44 /\ c≠58:=fun c hc=>by
  simp only[List.mem_singleton]at hc;subst hc
  cases k<;>simp
 unfold MkS;rw[vk hn]
 have m3:u7 (T++[(⟨kNm k,row.length,0⟩:Tr)]) i↔u7 T i:=by
  constructor
  . exact fun h d hd=>h d (List.mem_append.mpr (.inl hd))
  . intro h d hd
    rcases List.mem_append.mp hd with z|z
    . exact h d z
    . rw[List.mem_singleton]at z;subst z;intro y;rw[wA]at y;cases y
 rw[m3];constructor
 . rintro(⟨d,hd,e⟩|⟨d,hd,e⟩|h)
   . rcases List.mem_append.mp hd with z|z
     . exact .inl (.inl ⟨d,z,e⟩)
     . rw[List.mem_singleton]at z;subst z;exact .inr e.symm
   . rcases List.mem_append.mp hd with z|z
     . exact .inl (.inr (.inl ⟨d,z,e⟩))
     . rw[List.mem_singleton]at z;subst z;exact absurd rfl e.2.1
   . exact .inl (.inr (.inr h))
 . rintro((⟨d,hd,e⟩|⟨d,hd,e⟩|h)|h)
   . exact .inl ⟨d,List.mem_append.mpr (.inl hd),e⟩
   . exact .inr (.inl ⟨d,List.mem_append.mpr (.inl hd),e⟩)
   . exact .inr (.inr h)
   . exact .inl ⟨_,List.mem_append.mpr (.inr (List.mem_singleton.mpr rfl)),h.symm⟩
theorem w9{row:List Int}{A C:List Tr}{d:Tr}{k:Bool}(h0:d.b=0)(hs:d.s=kNm k)(i:Int):MkS (row++[if k then 93 else 125]) (A++{ d with b:=row.length+1 } ::C) i↔MkS row (A++d ::C) i \/ i=row.length:=by
 have hn:∀ c∈[if k then(93:Int)else 125],c≠44 /\ c≠58:=fun c hc=>by
  simp only[List.mem_singleton]at hc;subst hc
  cases k<;>simp
 have hB:isB d.s=true:=by rw[hs];exact FF k
 have hT:isT d.s=false:=by rw[hs];exact wA k
 have mm:∀(e d':Tr),e∈A++d' ::C↔e=d' \/ e∈A++C:=fun e d'=>by
  simp only[List.mem_append,List.mem_cons];constructor
  . rintro(z|z|z)
    . exact .inr (.inl z)
    . exact .inl z
    . exact .inr (.inr z)
  . rintro(z|z|z)
    . exact .inr (.inl z)
    . exact .inl z
    . exact .inr (.inr z)
 unfold MkS u7;rw[vk hn];constructor
 . rintro(⟨e,he,q⟩|⟨e,he,q⟩|⟨h,ho⟩)
   . rcases(mm _ _).mp he with z|z
     . subst z;exact .inl (.inl ⟨d,(mm _ _).mpr (.inl rfl),q⟩)
     . exact .inl (.inl ⟨e,(mm _ _).mpr (.inr z),q⟩)
   . rcases(mm _ _).mp he with z|z
     . subst z;exact .inr (by have:=q.2.2;simp only at this;omega)
     . exact .inl (.inr (.inl ⟨e,(mm _ _).mpr (.inr z),q⟩))
   . refine .inl (.inr (.inr ⟨h,fun e he q=>?_⟩))
     rcases(mm _ _).mp he with z|z
     . subst z;rw[hT]at q;cases q
     . exact ho e ((mm _ _).mpr (.inr z)) q
 . rintro((⟨e,he,q⟩|⟨e,he,q⟩|⟨h,ho⟩)|h)
   . rcases(mm _ _).mp he with z|z
     . subst z;exact .inl ⟨_,(mm _ _).mpr (.inl rfl),q⟩
     . exact .inl ⟨e,(mm _ _).mpr (.inr z),q⟩
   . rcases(mm _ _).mp he with z|z
     . subst z;exact absurd h0 q.2.1
     . exact .inr (.inl ⟨e,(mm _ _).mpr (.inr z),q⟩)
   . refine .inr (.inr ⟨h,fun e he q=>?_⟩)
     rcases(mm _ _).mp he with z|z
     . subst z
       have q':isT d.s=true:=q
       rw[hT]at q';cases q'
     . exact ho e ((mm _ _).mpr (.inr z)) q
   . exact .inr (.inl ⟨_,(mm _ _).mpr (.inl rfl),hB,by simp only;omega,by simp only;omega⟩)
theorem MI.txt{row:List Int}{T:List Tr}{p p':Ph}{n:Nat}{l:List Sg}{s:String}(h:MI row T p n)(hl:∀ s∈l,Sok s)(hB:isB s=false)(hT:isT s=true):MI (row++txt l) (T++[⟨s,row.length,(row++txt l).length⟩]) p' (n+1):=by
 obtain⟨rn,e1,e2⟩:=h.st;have ht:=Ed l hl rn (0+row.length)
 have hk:mkl m0 0 (row++PG.txt l)=mkl m0 0 row++[(row.length:Int)]:=by
  rw[nU,e1,ht.1,Nat.zero_add]
 refine⟨⟨false,by rw[mW,e1,ht.2];rfl,fun _=>rfl⟩,by rw[hk,List.length_append];have:=h.ct;simp;omega,fun i=>?_⟩
 rw[hk,List.mem_append,h.me,tK hB (by simp[PG.txt]) (.inl ⟨hT,fun c r z=>by simp only[PG.txt,List.cons.injEq]at z;rw[<- z.1];decide⟩),List.mem_singleton]
theorem MI.run{row x:List Int}{T:List Tr}{p p':Ph}{n:Nat}{s:String}(h:MI row T p n)(hp:p≠.aft)(hx:x≠[])(hr:∀ b∈x,yP b)(hB:isB s=false)(hp':p'=.aft):MI (row++x) (T++[⟨s,row.length,(row++x).length⟩]) p' (n+1):=by
 obtain⟨rn,e1,e2⟩:=h.st;have hrn:=e2 hp;subst hrn;have ht:=y0 x (0+row.length) false hr hx
 have hk:mkl m0 0 (row++x)=mkl m0 0 row++[(row.length:Int)]:=by
  rw[nU,e1,ht.1,Nat.zero_add];rfl
 refine⟨⟨true,by rw[mW,e1,ht.2],fun z=>absurd hp' z⟩,by rw[hk,List.length_append];have:=h.ct;simp;omega,fun i=>?_⟩
 rw[hk,List.mem_append,h.me,tK hB hx (.inr fun b hb=>by
  have:=(hr b hb).2.2;unfold mrk at this;simp only[Bool.or_eq_false_iff,decide_eq_false_iff_not]at this
  omega),List.mem_singleton]
theorem i5{b:Int}(h:(48<=b /\ b<=57) \/ b=43 \/ b=45 \/ b=46 \/ (97<=b /\ b<=122) \/ b=69)  :yP b:=by
 unfold yP wht mrk;simp only[Bool.or_eq_false_iff,decide_eq_false_iff_not];omega
theorem C4{m:Nm}(h:Nok m):∀ b∈nb m,yP b:=by
 intro b hb;unfold nb at hb;simp only[List.mem_append]at hb
 rcases hb with z|z|z|z
 . split at z
   . simp at z;exact i5 (by omega)
   . cases z
 . rcases h.ip with e|⟨d,r,e,h1,h2,h3⟩
   . rw[e]at z;simp at z;exact i5 (by omega)
   . rw[e,List.mem_cons]at z
     rcases z with z|z
     . exact i5 (by omega)
     . have:=h3 b z;unfold isF at this;exact i5 (by omega)
 . unfold frB at z;split at z
   . cases z
   . rw[List.mem_cons]at z
     rcases z with z|z
     . exact i5 (by omega)
     . have:=h.fr b z;unfold isF at this;exact i5 (by omega)
 . cases e:m.ex with
   |none=>rw[e]at z;cases z
   | some q=>
     obtain⟨x,s,ds⟩:=q;obtain⟨h1,h2,_,h3⟩:=h.ex x s ds e;rw[e]at z;simp only[exB,List.mem_cons,List.mem_append]at z
     rcases z with z|z|z
     . exact i5 (by omega)
     . rcases h2 with y|y|y<;>rw[y]at z<;>simp at z<;>exact i5 (by omega)
     . have:=h3 b z;unfold isF at this;exact i5 (by omega)
theorem MI.leaf{row:List Int}{T:List Tr}{K:List (Bool×Nat)}{p:Ph}{n:Nat}{x:Lf}(h:MI row T p n)(hv:Vl p K)(hx:Lok x):MI (row++lfb x) (T++[⟨lfN x,row.length,(row++lfb x).length⟩]) .aft (n+1):=by
 have hp:p≠.aft:=by rcases hv with z|⟨z,_⟩<;>rw[z]<;>simp
 cases x with
 |tx l=>exact h.txt hx rfl rfl
 |nm m=>exact h.run hp (vQ (.nm m) hx) (C4 hx) rfl rfl
 | wd w=>
   refine h.run hp (vQ (.wd w) hx) (fun b hb=>?_) (Cy _) rfl
   cases w<;>(simp only[lfb,wdb,List.mem_cons,List.not_mem_nil,or_false]at hb;exact i5 (by omega))
theorem Pn.mi{row:List Int}{T:List Tr}{K:List (Bool×Nat)}{p:Ph}{n:Nat}(h:Pn row T K p n):MI row T p n:=by
 induction h with
 | start=>
   refine⟨⟨false,rfl,fun _=>rfl⟩,Nat.le_refl _,fun i=>⟨fun z=>(by cases z),?_⟩⟩
   rintro(⟨d,hd,_⟩|⟨d,hd,_⟩|⟨⟨j,_,z⟩,_⟩)
   . cases hd
   . cases hd
   . simp at z
 |aM _ hb ih=>exact ih.aM hb
 |comma h ih=>exact rJ ih rfl rfl (wR (.inl rfl) h.pc.inv.bd)
 |name _ hp hl ih=>exact ih.txt hl rfl rfl
 |colon h ih=>exact rJ ih rfl rfl (wR (.inr rfl) h.pc.inv.bd)
 |@opn _ _ _ _ _ k _ hv hK ih=>exact rJ ih (by cases k<;>rfl) (by cases k<;>rfl) (fun i=>AW i)
 |leaf _ hv hx ih=>exact ih.leaf hv hx
 | @close _ _ _ _ _ k _ h hp ih=>
   obtain⟨A,d,C,rfl,h1,h2,h3,h4,h5⟩:=h.pc.inv.op;rw[vL h1];exact rJ ih (by cases k<;>rfl) (by cases k<;>rfl) (fun i=>w9 h2 h3 i)
end PG
namespace L2.plainglass_k27_marks_placed
open PySem L2.P PG
noncomputable def pO:ag -> OS:=
    (aD (bz (bw (ao 0))
    (cS (mOp i7 (ao 0) (mOp bC (ao 1) (mUn xt (ao 0)))))
    bA)
    (cS (mC (.int 0))))
noncomputable def fB:List PV->OE:=fnP 2 2 pO
noncomputable def oo:ag -> OS:=
    (cS (mOp bC (mOp dj (mOp tw (mOp b7 (ao 2) (mC (.int 64))) (mC (.int 69621))) (ao 2)) (mC (.int 4294967231))))
noncomputable def oy:ag -> OS:=
    (aD (aF 2 (mOp bC (mOp tw (ao 2) (mC (.int 48271))) (mC (.int 4294967279))))
    oo)
noncomputable def qV:ag -> OS:=
    (aD (aF 2 (mOp bC (mOp dj (bK fB (ak (ao 0) (ak (ao 1) aK))) (mOp tw (mC (.int 104729)) (mOp dj (ao 1) (mC (.int 1))))) (mC (.int 4294967291))))
    oy)
noncomputable def ck:List PV->OE:=fnP 2 3 qV
noncomputable def gk:ag -> OS:=
    (cY 4)
noncomputable def iX:ag -> OS:=
    (aD (bz (cp 2 aB)
    (aD (br 2 (pIx 2 (pIx 2 aB (mUn fi (mC (.int 1)))) (mC (.int 1))) (mD (jR (aA (mOp gEq (cj 2 (pIx 2 (pIx 2 aB (mUn fi (mC (.int 1)))) (mC (.int 0)))) (mC (.str "row")))) (ao 4) (dG (ak (cj 3 (pIx 3 aB (mC (.int 3)))) (ak (ao 4) aK))))))
    (bz (aA (mOp gEq (cj 2 (pIx 2 (pIx 2 aB (mUn fi (mC (.int 1)))) (mC (.int 0)))) (mC (.str "fields"))))
    (kD 1 (pIx 1 aB (mOp uu (cj 3 (pIx 3 aB (mC (.int 2)))) (mC (.int 1)))) (mC (.int 3)) (mD (dy 1 aB)))
    bA))
    bA)
    gk)
noncomputable def gq:ag -> OS:=
    (aD (aF 4 (dG (ak (cj 3 (pIx 3 aB (mC (.int 0)))) (ak (mUn iT (cj 3 (pIx 3 aB (mC (.int 1))))) aK))))
    iX)
noncomputable def lK:ag -> OS:=
    (aD (kD 1 (pIx 1 aB (cj 3 (pIx 3 aB (mC (.int 2))))) (mC (.int 3)) (mD (dy 1 aB)))
    gq)
noncomputable def lQ:ag -> OS:=
    (aD (kD 1 (pIx 1 aB (cj 3 (pIx 3 aB (mC (.int 2))))) (mC (.int 2)) (mD (dy 0 aB)))
    lK)
noncomputable def lD:ag -> OS:=
    (aD (br 0 aB (mD (jR (aA (mOp gEq (cj 3 (pIx 3 aB (mC (.int 0)))) (mC (.str "row")))) (mC (.int 93)) (mC (.int 125)))))
    lQ)
noncomputable def km:ag -> OS:=
    (aD (jj 3 (qG 2 aB))
    lD)
noncomputable def bT:List Sl->OI:=fnI 3 5 km
noncomputable def gn:ag -> OE:=
    (mOp i7 (cF (ak (mC (.int 32)) (ak (mC (.int 9)) (ak (mC (.int 10)) (ak (mC (.int 13)) aK))))) (mOp bC (mOp b7 (mOp b7 (ao 0) (mC (.int 4))) (mOp dj (mC (.int 1)) (mOp tw (mC (.int 3)) (ao 1)))) (mC (.int 4))))
noncomputable def kG:ag -> OS:=
    (aD (bz (aA (mOp gGt (mOp bC (ao 0) (mC (.int 4))) (mC (.int 0))))
    (cS (cF aK))
    bA)
    (cS (nW (mOp dj (mOp bC (mOp b7 (ao 0) (mC (.int 64))) (mC (.int 3))) (mC (.int 1))) [0] gn)))
noncomputable def bO:List PV->OE:=fnP 1 1 kG
noncomputable def cW:ag -> OS:=
    (cS (mOp dj (mC (.int 65536)) (mOp bC (ao 2) (mC (.int 1048576)))))
noncomputable def cU:ag -> OS:=
    (aD (bz (aA (mOp gEq (ao 1) (mC (.int 6))))
    (cS (mOp dj (mC (.int 57344)) (mOp bC (ao 2) (mC (.int 8192)))))
    bA)
    cW)
noncomputable def cV:ag -> OS:=
    (aD (bz (aA (mOp gEq (ao 1) (mC (.int 5))))
    (cS (mOp dj (mC (.int 2048)) (mOp bC (ao 2) (mC (.int 53248)))))
    bA)
    cU)
noncomputable def cP:ag -> OS:=
    (aD (bz (aA (mOp gEq (ao 1) (mC (.int 4))))
    (cS (mOp dj (mC (.int 128)) (mOp bC (ao 2) (mC (.int 1920)))))
    bA)
    cV)
noncomputable def cO:ag -> OS:=
    (aD (bz (aA (mOp gLt (ao 1) (mC (.int 4))))
    (cS (mOp i7 (cF (ak (mC (.int 34)) (ak (mC (.int 92)) (ak (mC (.int 47)) (ak (mC (.int 8)) (ak (mC (.int 12)) (ak (mC (.int 10)) (ak (mC (.int 13)) (ak (mC (.int 9)) (ak (mC (.int 0)) (ak (mC (.int 31)) (ak (mC (.int 127)) aK)))))))))))) (mOp bC (ao 2) (mC (.int 11)))))
    bA)
    cP)
noncomputable def cM:ag -> OS:=
    (aD (bz (aA (mOp gLt (ao 1) (mC (.int 2))))
    (cS (mOp dj (mC (.int 32)) (mOp bC (ao 2) (mC (.int 95)))))
    bA)
    cO)
noncomputable def cR:ag -> OS:=
    (aD (aF 2 (mOp b7 (ao 0) (mC (.int 8))))
    cM)
noncomputable def eA:ag -> OS:=
    (aD (aF 1 (mOp bC (ao 0) (mC (.int 8))))
    cR)
noncomputable def b9:List PV->OE:=fnP 1 3 eA
noncomputable def ia:ag -> OE:=
    (bK b9 (ak (bK ck (ak (ao 0) (ak (mOp dj (mOp dj (ao 1) (mC (.int 1))) (ao 2)) aK))) aK))
noncomputable def ie:ag -> OS:=
    (cS (nW (ao 3) [0,1] ia))
noncomputable def iq:ag -> OS:=
    (aD (bz (aA (mOp gEq (mOp bC (mOp b7 (ao 2) (mC (.int 5))) (mC (.int 8))) (mC (.int 3))))
    (aF 3 (mOp bC (mOp b7 (ao 2) (mC (.int 40))) (mC (.int 14))))
    bA)
    ie)
noncomputable def hZ:ag -> OS:=
    (aD (aF 3 (mOp bC (ao 2) (mC (.int 5))))
    iq)
noncomputable def jL:ag -> OS:=
    (aD (aF 2 (bK ck (ak (ao 0) (ak (ao 1) aK))))
    hZ)
noncomputable def cu:List PV->OE:=fnP 2 4 jL
noncomputable def lU:ag -> OS:=
    (aD (bz (aA (mOp gEq (mOp bC (ao 1) (mC (.int 2))) (mC (.int 0))))
    (cS (cF (ak (mOp dj (mC (.int 97)) (mOp bC (mOp b7 (ao 1) (mC (.int 2))) (mC (.int 3)))) aK)))
    bA)
    (cS (bK cu (ak (ao 0) (ak (mOp dj (mC (.int 11)) (mOp bC (mOp b7 (ao 1) (mC (.int 2))) (mC (.int 37)))) aK)))))
noncomputable def eD:List PV->OE:=fnP 2 2 lU
noncomputable def fb:ag -> OS:=
    (aD (aF 2 (mOp lr (cF (ak (mOp dj (mC (.int 128)) (mOp bC (ao 0) (mC (.int 64)))) aK)) (ao 2)))
    (aF 0 (mOp b7 (ao 0) (mC (.int 64)))))
noncomputable def eV:ag -> OS:=
    (cS (mOp lr (cF (ak (mOp dj (mOp i7 (cF (ak (mC (.int 192)) (ak (mC (.int 224)) (ak (mC (.int 240)) aK)))) (mOp uu (ao 1) (mC (.int 1)))) (ao 0)) aK)) (ao 2)))
noncomputable def eX:ag -> OS:=
    (aD (jX 3 (ao 1)
    fb)
    eV)
noncomputable def eY:ag -> OS:=
    (aD (aF 2 (cF aK))
    eX)
noncomputable def fe:ag -> OS:=
    (aD (aF 1 (mOp dj (mOp dj (mC (.int 1)) (mUn sX (mOp gGe (ao 0) (mC (.int 2048))))) (mUn sX (mOp gGe (ao 0) (mC (.int 65536))))))
    eY)
noncomputable def gz:ag -> OS:=
    (aD (bz (aA (mOp gLt (ao 0) (mC (.int 128))))
    (cS (cF (ak (ao 0) aK)))
    bA)
    fe)
noncomputable def cA:List PV->OE:=fnP 1 4 gz
noncomputable def iI:ag -> OS:=
    (aD (aF 4 (mOp bC (ao 0) (mC (.int 16))))
    (aD (bz (aA (mOp gLt (ao 4) (mC (.int 10))))
    (aF 2 (mOp lr (cF (ak (mOp dj (mC (.int 48)) (ao 4)) aK)) (ao 2)))
    (aF 2 (mOp lr (cF (ak (mOp dj (jR (bw (ao 1)) (mC (.int 55)) (mC (.int 87))) (ao 4)) aK)) (ao 2))))
    (aF 0 (mOp b7 (ao 0) (mC (.int 16))))))
noncomputable def ou:ag -> OS:=
    (cS (mOp lr (cF (ak (mC (.int 92)) (ak (mC (.int 117)) aK))) (ao 2)))
noncomputable def oB:ag -> OS:=
    (aD (jX 3 (mC (.int 4))
    iI)
    ou)
noncomputable def qM:ag -> OS:=
    (aD (aF 2 (cF aK))
    oB)
noncomputable def eQ:List PV->OE:=fnP 2 5 qM
noncomputable def m9:ag -> OS:=
    (cS (mOp lr (bK eQ (ak (mOp dj (mC (.int 55296)) (mOp b7 (ao 4) (mC (.int 1024)))) (ak (mOp gEq (ao 3) (mC (.int 1))) aK))) (bK eQ (ak (mOp dj (mC (.int 56320)) (mOp bC (ao 4) (mC (.int 1024)))) (ak (mOp gEq (ao 3) (mC (.int 0))) aK)))))
noncomputable def m4:ag -> OS:=
    (aD (aF 4 (mOp uu (ao 0) (mC (.int 65536))))
    m9)
noncomputable def gW:ag -> OS:=
    (aD (bz (aA (mOp gLt (ao 0) (mC (.int 65536))))
    (cS (bK eQ (ak (ao 0) (ak (mOp gEq (ao 3) (mC (.int 1))) aK))))
    bA)
    m4)
noncomputable def cI:ag -> OS:=
    (aD (bz (cC (aA (mOp gGt (ao 3) (mC (.int 1)))) (cC (aA (mOp gGe (ao 0) (mC (.int 32)))) (cC (aA (mOp gNe (ao 0) (mC (.int 34)))) (aA (mOp gNe (ao 0) (mC (.int 92)))))))
    (cS (bK cA (ak (ao 0) aK)))
    bA)
    gW)
noncomputable def jF:ag -> OS:=
    (aD (bz (cC (aA (mOp gEq (ao 3) (mC (.int 0)))) (aA (tT false (ao 0) 2 aB)))
    (cS (cF (ak (mC (.int 92)) (ak (wq 2 aB (ao 0)) aK))))
    bA)
    cI)
noncomputable def fL:ag -> OS:=
    (aD (aF 3 (mOp bC (ao 1) (mC (.int 5))))
    jF)
noncomputable def qd:ag -> OS:=
    (aD (jZ 2 (xD [(34,34),(92,92),(47,47),(8,98),(12,102),(10,110),(13,114),(9,116)]))
    fL)
noncomputable def fz:List PV->OE:=fnP 2 5 qd
noncomputable def gU:ag -> OS:=
    (aD (aF 2 (mOp lr (ao 2) (bK fz (ak (ao 4) (ak (mOp dj (mOp b7 (ao 1) (mOp dj (mC (.int 1)) (mOp bC (ao 3) (mC (.int 7))))) (ao 3)) aK)))))
    (aF 3 (mOp dj (ao 3) (mC (.int 1)))))
noncomputable def mR:ag -> OS:=
    (cS (mOp lr (ao 2) (cF (ak (mC (.int 34)) aK))))
noncomputable def mK:ag -> OS:=
    (aD (jY 4 (ao 0)
    gU)
    mR)
noncomputable def mO:ag -> OS:=
    (aD (aF 3 (mC (.int 0)))
    mK)
noncomputable def pk:ag -> OS:=
    (aD (aF 2 (cF (ak (mC (.int 34)) aK)))
    mO)
noncomputable def dn:List PV->OE:=fnP 2 5 pk
noncomputable def i6:ag -> OS:=
    (cY 5)
noncomputable def jd:ag -> OS:=
    (aD (bz (cC (cp 3 aB) (aA (mOp gEq (cj 3 (pIx 3 (pIx 3 aB (mUn fi (mC (.int 1)))) (mC (.int 0)))) (mC (.str "fields")))))
    (aD (aF 6 (bK eD (ak (ao 0) (ak (mOp b7 (ao 4) (mC (.int 13))) aK))))
    (aD (aF 5 (mUn iT (ao 6)))
    (aD (aF 7 (dy 1 aB))
    (aD (cw 6 (cK 1 aB (bK dn (ak (ao 6) (ak (mOp b7 (ao 4) (mC (.int 17))) aK)))))
    (aD (br 2 aB (mD (cF (ak (mC (.str "name")) (ak (ao 7) (ak (dy 1 aB) (ak (mC (.int 0)) aK)))))))
    (aD (cK 1 aB (bK bO (ak (mOp b7 (ao 4) (mC (.int 19))) aK)))
    (aD (br 1 aB (mD (mC (.int 58))))
    (cK 1 aB (bK bO (ak (mOp b7 (ao 4) (mC (.int 23))) aK))))))))))
    bA)
    i6)
noncomputable def lB:ag -> OS:=
    (aD (bz (cC (cp 3 aB) (bw (cj 3 (pIx 3 (pIx 3 aB (mUn fi (mC (.int 1)))) (mC (.int 1))))))
    (aD (br 1 aB (mD (mC (.int 44))))
    (cK 1 aB (bK bO (ak (mOp b7 (ao 4) (mC (.int 11))) aK))))
    bA)
    jd)
noncomputable def lJ:ag -> OS:=
    (aD (aF 5 (dG aK))
    lB)
noncomputable def iG:ag -> OS:=
    (aD (cK 1 aB (bK bO (ak (mOp b7 (ao 4) (mC (.int 3))) aK)))
    lJ)
noncomputable def dm:List Sl->OI:=fnI 5 8 iG
noncomputable def fh:ag -> OT:=
    (aA (mOp gEq (mOp bC (ao 0) (mC (.int 10))) (mC (.int 0))))
noncomputable def gp:ag -> OS:=
    (aD (aF 0 (mOp b7 (ao 0) (mC (.int 10))))
    (aF 1 (mOp dj (ao 1) (mC (.int 1)))))
noncomputable def lL:ag -> OS:=
    (cS (dG (ak (ao 0) (ak (ao 1) aK))))
noncomputable def lG:ag -> OS:=
    (aD (gg fh
    gp fuel)
    lL)
noncomputable def kI:ag -> OS:=
    (aD (bz (aA (mOp gEq (ao 0) (mC (.int 0))))
    (cS (dG (ak (mC (.int 0)) (ak (mC (.int 0)) aK))))
    bA)
    lG)
noncomputable def cJ:List PV->OE:=fnP 2 2 kI
noncomputable def dZ:ag -> OE:=
    (mUn wF (ao 0))
noncomputable def fS:ag -> OE:=
    (mOp dj (mC (.int 48)) (ao 0))
noncomputable def da:ag -> OS:=
    (aF 4 (mOp dj (mOp tw (ao 4) (mC (.int 10))) (ao 5)))
noncomputable def ez:ag -> OS:=
    (aD (bg 3 (mOp dj (mC (.int 48)) (ao 5)))
    (aD (aF 4 (mOp dj (mOp tw (ao 4) (mC (.int 10))) (ao 5)))
    (aF 6 (mOp uu (ao 6) (mC (.int 1))))))
noncomputable def df:ag -> OE:=
    (mUn y6 (ao 0))
noncomputable def gJ:ag -> OS:=
    (cw 3 (cS (dG (ak (ao 3) (ak (bK cJ (ak (ao 4) (ak (ao 6) aK))) aK)))))
noncomputable def kK:ag -> OS:=
    (aD (bz (bw (ao 1))
    (aF 4 (mUn fi (ao 4)))
    bA)
    gJ)
noncomputable def ka:ag -> OS:=
    (aD (bz (aA (mOp gEq (mOp bC (mOp b7 (ao 0) (mC (.int 31))) (mC (.int 3))) (mC (.int 1))))
    (aD (aF 7 (mOp bC (mOp b7 (ao 0) (mC (.int 37))) (mC (.int 30))))
    (aD (bg 3 (mOp i7 (cF (ak (mC (.int 101)) (ak (mC (.int 69)) aK))) (mOp bC (mOp b7 (ao 0) (mC (.int 41))) (mC (.int 2)))))
    (aD (aF 8 (mOp gEq (mOp bC (mOp b7 (ao 0) (mC (.int 43))) (mC (.int 3))) (mC (.int 1))))
    (aD (bz (bw (ao 8))
    (bg 3 (mC (.int 45)))
    (bz (aA (mOp gEq (mOp bC (mOp b7 (ao 0) (mC (.int 43))) (mC (.int 3))) (mC (.int 2))))
    (bg 3 (mC (.int 43)))
    bA))
    (aD (bz (aA (mOp gEq (mOp bC (mOp b7 (ao 0) (mC (.int 47))) (mC (.int 4))) (mC (.int 1))))
    (bg 3 (mC (.int 48)))
    bA)
    (aD (aF 3 (mOp lr (ao 3) (j7 (mUn ko (ao 7)) [] df)))
    (aF 6 (mOp dj (ao 6) (jR (bw (ao 8)) (mUn fi (ao 7)) (ao 7))))))))))
    bA)
    kK)
noncomputable def kz:ag -> OS:=
    (aD (bz (aA (mOp gEq (mOp bC (mOp b7 (ao 0) (mC (.int 17))) (mC (.int 3))) (mC (.int 1))))
    (aD (bg 3 (mC (.int 46)))
    (jY 5 (BV (cF (ak (mOp bC (mOp b7 (ao 0) (mC (.int 19))) (mC (.int 10))) (ak (mOp bC (mOp b7 (ao 0) (mC (.int 23))) (mC (.int 4))) (ak (mC (.int 0)) aK)))) (mC .non) (wx (mOp dj (mC (.int 1)) (mOp bC (mOp b7 (ao 0) (mC (.int 29))) (mC (.int 3))))))
    ez))
    bA)
    ka)
noncomputable def kE:ag -> OS:=
    (aD (aF 6 (mC (.int 0)))
    kz)
noncomputable def kM:ag -> OS:=
    (aD (cw 2 (jY 5 (ao 2)
    da))
    kE)
noncomputable def kP:ag -> OS:=
    (aD (aF 4 (mC (.int 0)))
    kM)
noncomputable def kx:ag -> OS:=
    (aD (aF 3 (mOp lr (ao 3) (nI (ao 2) [] fS)))
    kP)
noncomputable def kQ:ag -> OS:=
    (aD (aF 3 (jR (bw (ao 1)) (cF (ak (mC (.int 45)) aK)) (cF aK)))
    kx)
noncomputable def kH:ag -> OS:=
    (aD (aF 2 (j7 (mUn ko (mOp bC (mOp b7 (ao 0) (mC (.int 3))) (mC (.int 100000)))) [] dZ))
    kQ)
noncomputable def ni:ag -> OS:=
    (aD (aF 1 (mOp gEq (mOp bC (ao 0) (mC (.int 3))) (mC (.int 0))))
    kH)
noncomputable def dr:List PV->OE:=fnP 1 9 ni
noncomputable def gP:ag -> OS:=
    (cS (dG (ak (mC (.str "number")) (ak (mOp dQ (ao 4) (mC (.int 0))) (ak (dG (ak (mC (.str "number")) (ak (mOp dQ (mOp dQ (ao 4) (mC (.int 1))) (mC (.int 0))) (ak (mOp dQ (mOp dQ (ao 4) (mC (.int 1))) (mC (.int 1))) aK)))) aK)))))
noncomputable def lu:ag -> OS:=
    (aD (aF 4 (bK dr (ak (mOp b7 (ao 1) (mC (.int 7))) aK)))
    gP)
noncomputable def ly:ag -> OS:=
    (aD (bz (aA (mOp gEq (ao 2) (mC (.int 3))))
    (aD (aF 3 (bK cu (ak (ao 0) (ak (mOp dj (mC (.int 7)) (mOp bC (ao 1) (mC (.int 41)))) aK))))
    (cw 3 (cS (dG (ak (mC (.str "text")) (ak (bK dn (ak (ao 3) (ak (mOp b7 (ao 1) (mC (.int 30))) aK))) (ak (dG (ak (mC (.str "text")) (ak (mUn iT (ao 3)) aK))) aK)))))))
    bA)
    lu)
noncomputable def lz:ag -> OS:=
    (aD (bz (aA (mOp gEq (ao 2) (mC (.int 2))))
    (cS (dG (ak (mC (.str "false")) (ak (cF (ak (mC (.int 102)) (ak (mC (.int 97)) (ak (mC (.int 108)) (ak (mC (.int 115)) (ak (mC (.int 101)) aK)))))) (ak (mC (.bl false)) aK)))))
    bA)
    ly)
noncomputable def lq:ag -> OS:=
    (aD (bz (aA (mOp gEq (ao 2) (mC (.int 1))))
    (cS (dG (ak (mC (.str "true")) (ak (cF (ak (mC (.int 116)) (ak (mC (.int 114)) (ak (mC (.int 117)) (ak (mC (.int 101)) aK))))) (ak (mC (.bl true)) aK)))))
    bA)
    lz)
noncomputable def gQ:ag -> OS:=
    (aD (bz (aA (mOp gEq (ao 2) (mC (.int 0))))
    (cS (dG (ak (mC (.str "null")) (ak (cF (ak (mC (.int 110)) (ak (mC (.int 117)) (ak (mC (.int 108)) (ak (mC (.int 108)) aK))))) (ak (mC .non) aK)))))
    bA)
    lq)
noncomputable def iH:ag -> OS:=
    (aD (aF 2 (mOp bC (mOp b7 (ao 1) (mC (.int 5))) (mC (.int 6))))
    gQ)
noncomputable def bI:List PV->OE:=fnP 2 5 iH
noncomputable def eW:ag -> OS:=
    (aD (aF 7 (bK ck (ak (ao 0) (ak (ao 6) aK))))
    (bz (cC (cp 4 aB) (aA (mOp gEq (mOp bC (ao 7) (mC (.int 5))) (mC (.int 1)))))
    (aD (cK 2 aB (bK bO (ak (mOp b7 (ao 7) (mC (.int 3))) aK)))
    (jj 5 (iY bT [.t 2 aB,.t 3 aB,.t 4 aB])))
    (bz (nO (cp 4 aB) (aA (mOp gEq (ao 6) (mC (.int 0)))))
    (aD (jj 8 (iY dm [.e (ao 0),.t 2 aB,.t 3 aB,.t 4 aB,.e (ao 7)]))
    (aD (aF 9 (dy 2 aB))
    (bz (nO (aA (mOp gGt (mOp bC (ao 7) (mC (.int 5))) (mC (.int 2)))) (cC (aA (mOp gEq (ao 6) (mC (.int 0)))) (aA (mOp gGt (mOp bC (ao 7) (mC (.int 9))) (mC (.int 0))))))
    (aD (aF 10 (mOp i7 (cF (ak (mC (.str "row")) (ak (mC (.str "fields")) aK))) (mOp bC (mOp b7 (ao 7) (mC (.int 5))) (mC (.int 2)))))
    (aD (br 2 aB (mD (jR (aA (mOp gEq (ao 10) (mC (.str "row")))) (mC (.int 91)) (mC (.int 123)))))
    (aD (br 4 aB (mDl (mDc (mD (ao 10)) (mDc (mD (cF aK)) (mDc (mD (dy 3 aB)) (mDc (mD (ao 8)) mDn))))))
    (br 3 aB (mD (cF (ak (ao 10) (ak (ao 9) (ak (mC (.int 0)) (ak (mC (.int 0)) aK))))))))))
    (aD (aF 11 (bK bI (ak (ao 0) (ak (ao 7) aK))))
    (aD (cK 2 aB (mOp dQ (ao 11) (mC (.int 1))))
    (aD (br 3 aB (mD (cF (ak (mOp dQ (ao 11) (mC (.int 0))) (ak (ao 9) (ak (dy 2 aB) (ak (mOp dj (dy 3 aB) (mC (.int 1))) aK)))))))
    (aD (aF 5 (mOp dQ (ao 11) (mC (.int 2))))
    (bz (cC (cp 4 aB) (aA (mOp gEq (cj 4 (pIx 4 (pIx 4 aB (mUn fi (mC (.int 1)))) (mC (.int 0)))) (mC (.str "fields")))))
    (aD (kD 3 (pIx 3 aB (mUn fi (mC (.int 2)))) (mC (.int 3)) (mD (dy 3 aB)))
    (br 4 (pIx 4 (pIx 4 aB (mUn fi (mC (.int 1)))) (mC (.int 1))) (mD (dG (ak (ao 8) (ak (ao 5) aK))))))
    (bz (cp 4 aB)
    (br 4 (pIx 4 (pIx 4 aB (mUn fi (mC (.int 1)))) (mC (.int 1))) (mD (ao 5)))
    bA)))))))))
    bA)))
noncomputable def fg:ag -> OT:=
    (cp 4 aB)
noncomputable def gm:ag -> OS:=
    (jj 5 (iY bT [.t 2 aB,.t 3 aB,.t 4 aB]))
noncomputable def i3:ag -> OE:=
    (mUn iT (ao 0))
noncomputable def lP:ag -> OS:=
    (ij 3 (ij 2 (cS (dG (ak (ao 2) (ak (nI (ao 3) [] i3) (ak (ao 5) aK)))))))
noncomputable def i1:ag -> OS:=
    (aD (cK 2 aB (bK bO (ak (bK ck (ak (ao 0) (ak (mC (.int 61)) aK))) aK)))
    lP)
noncomputable def lE:ag -> OS:=
    (aD (gg fg
    gm fuel)
    i1)
noncomputable def iU:ag -> OS:=
    (aD (jX 6 (ao 1)
    eW)
    lE)
noncomputable def lM:ag -> OS:=
    (aD (aF 5 (mC .non))
    iU)
noncomputable def lN:ag -> OS:=
    (aD (jZ 4 (mD (cF aK)))
    lM)
noncomputable def lA:ag -> OS:=
    (aD (jZ 3 (mD (cF aK)))
    lN)
noncomputable def kB:ag -> OS:=
    (aD (jZ 2 (mD (cF aK)))
    lA)
noncomputable def dU:List PV->OE:=fnP 2 12 kB
noncomputable def pD:ag -> OS:=
    (cS (mOp gIn (ao 0) (mC (.tup ([9,10,13,32].map .int)))))
noncomputable def fA:List PV->OE:=fnP 1 1 pD
noncomputable def eJ:ag -> OS:=
    (cS (mC (.str "run")))
noncomputable def eG:ag -> OS:=
    (aD (bz (aA (mOp gIn (ao 0) (dG (ak (mC (.int 44)) (ak (mC (.int 58)) (ak (mC (.int 91)) (ak (mC (.int 93)) (ak (mC (.int 123)) (ak (mC (.int 125)) aK)))))))))
    (cS (mC (.str "mark")))
    bA)
    eJ)
noncomputable def dc:ag -> OS:=
    (aD (bz (aA (mOp gEq (ao 0) (mC (.int 34))))
    (cS (mC (.str "quote")))
    bA)
    eG)
noncomputable def dX:ag -> OS:=
    (aD (bz (bw (bK fA (ak (ao 0) aK)))
    (cS (mC (.str "white")))
    bA)
    dc)
noncomputable def bY:List PV->OE:=fnP 1 1 dX
noncomputable def eL:ag -> OS:=
    (bz (oz (bw (ao 2)))
    (aD (bg 1 (bK bY (ak (ao 4) aK)))
    (aF 2 (mOp gEq (ao 4) (mC (.int 34)))))
    (aD (bg 1 (mC (.str "inside")))
    (aD (aF 2 (tD (ao 3) (mOp gNe (ao 4) (mC (.int 34)))))
    (aF 3 (hU (mOp gEq (ao 4) (mC (.int 92))) (m8 (ao 3)))))))
noncomputable def qJ:ag -> OS:=
    (cY 1)
noncomputable def qL:ag -> OS:=
    (aD (jY 4 (ao 0)
    eL)
    qJ)
noncomputable def qX:ag -> OS:=
    (aD (aF 3 (mC (.bl false)))
    qL)
noncomputable def rj:ag -> OS:=
    (aD (aF 2 (mC (.bl false)))
    qX)
noncomputable def vP:ag -> OS:=
    (aD (aF 1 (cF aK))
    rj)
noncomputable def iN:List PV->OE:=fnP 1 5 vP
noncomputable def lp:ag -> OS:=
    (aD (bz (nO (aA (mOp gIn (ao 4) (dG (ak (mC (.str "mark")) (ak (mC (.str "quote")) aK))))) (cC (aA (mOp gEq (ao 4) (mC (.str "run")))) (aA (mOp gNe (ao 2) (mC (.str "run"))))))
    (bg 1 (ao 3))
    bA)
    (aF 2 (ao 4)))
noncomputable def qy:ag -> OS:=
    (cY 1)
noncomputable def qP:ag -> OS:=
    (aD (wU 3 4 (bK iN (ak (ao 0) aK))
    lp)
    qy)
noncomputable def qD:ag -> OS:=
    (aD (aF 2 (mC .non))
    qP)
noncomputable def vT:ag -> OS:=
    (aD (aF 1 (cF aK))
    qD)
noncomputable def iB:List PV->OE:=fnP 1 5 vT
noncomputable def oh:ag -> OS:=
    (cS (hU (mIs "int" (ao 0)) (m8 (mIs "bool" (ao 0)))))
noncomputable def dY:List PV->OE:=fnP 1 1 oh
noncomputable def hX:ag -> OE:=
    (bK dY (ak (ao 0) aK))
noncomputable def mP:ag -> OS:=
    (cS (hU (mIs "list" (ao 0)) (mUn Dh (nI (ao 0) [] hX))))
noncomputable def cx:List PV->OE:=fnP 1 1 mP
noncomputable def fK:ag -> OS:=
    (aD (aF 6 (mOp i7 (ao 0) (ao 5)))
    (bz (bw (ao 2))
    (bz (bw (ao 3))
    (aF 3 (mC (.bl false)))
    (bz (aA (mOp gEq (ao 6) (mC (.int 92))))
    (aF 3 (mC (.bl true)))
    (bz (aA (mOp gEq (ao 6) (mC (.int 34))))
    (aF 2 (mC (.bl false)))
    bA)))
    (bz (aA (mOp gIn (ao 6) (dG (ak (mC (.int 34)) (ak (mC (.int 123)) (ak (mC (.int 125)) (ak (mC (.int 91)) (ak (mC (.int 93)) (ak (mC (.int 58)) (ak (mC (.int 44)) aK))))))))))
    (aD (bg 1 (ao 5))
    (aD (aF 2 (mOp gEq (ao 6) (mC (.int 34))))
    (aF 4 (mC (.bl false)))))
    (bz (aA (mOp gIn (ao 6) (dG (ak (mC (.int 32)) (ak (mC (.int 9)) (ak (mC (.int 10)) (ak (mC (.int 13)) aK)))))))
    (aF 4 (mC (.bl false)))
    (aD (bz (oz (bw (ao 4)))
    (bg 1 (ao 5))
    bA)
    (aF 4 (mC (.bl true))))))))
noncomputable def j9:ag -> OS:=
    (cY 1)
noncomputable def j8:ag -> OS:=
    (aD (jX 5 (mUn xt (ao 0))
    fK)
    j9)
noncomputable def ke:ag -> OS:=
    (aD (aF 4 (mC (.bl false)))
    j8)
noncomputable def kT:ag -> OS:=
    (aD (aF 3 (mC (.bl false)))
    ke)
noncomputable def kA:ag -> OS:=
    (aD (aF 2 (mC (.bl false)))
    kT)
noncomputable def nz:ag -> OS:=
    (aD (aF 1 (cF aK))
    kA)
noncomputable def du:List PV->OE:=fnP 1 7 nz
noncomputable def lh:ag -> OE:=
    (ao 1)
noncomputable def m5:ag -> OT:=
    (aA (nY gLt gLt (mOp dQ (ao 1) (mC (.int 1))) (ao 0) (mOp dQ (ao 1) (mC (.int 2)))))
noncomputable def oZ:ag -> OS:=
    (bz (cC (aA (mOp gIn (mOp i7 (ao 2) (ao 6)) (dG (ak (mC (.int 44)) (ak (mC (.int 58)) aK))))) (oz (bw (gA (ao 5) [6] m5 lh))))
    (lT 3 aB (ao 6) (mC (.bl true)))
    bA)
noncomputable def sU:ag -> OE:=
    (ao 0)
noncomputable def sm:ag -> OT:=
    (aA (mOp gIn (mOp dQ (ao 0) (mC (.int 0))) (dG (ak (mC (.str "text")) (ak (mC (.str "name")) aK)))))
noncomputable def oP:ag -> OS:=
    (aD (lT 3 aB (mOp dQ (ao 4) (mC (.int 1))) (mC (.bl true)))
    (bz (aA (mOp gIn (mOp dQ (ao 4) (mC (.int 0))) (dG (ak (mC (.str "row")) (ak (mC (.str "fields")) aK)))))
    (lT 3 aB (mOp uu (mOp dQ (ao 4) (mC (.int 2))) (mC (.int 1))) (mC (.bl true)))
    bA))
noncomputable def oU:ag -> OE:=
    (mOp i7 (ao 1) (mOp bC (bK ck (ak (ao 0) (ak (ao 2) aK))) (mC (.int 20))))
noncomputable def wL:ag -> OS:=
    (cw 2 (cw 7 (cS (hU (bK cx (ak (ao 7) aK)) (hU (mOp uL (ao 7) (bK du (ak (ao 2) aK))) (mOp uL (ao 9) (ao 2)))))))
noncomputable def wJ:ag -> OS:=
    (aD (cw 9 (aF 7 (bK iB (ak (ao 9) aK))))
    wL)
noncomputable def vK:ag -> OS:=
    (aD (aF 9 (mUn mL (ao 2)))
    wJ)
noncomputable def v5:ag -> OS:=
    (aD (aF 2 (nW (mOp bC (bK ck (ak (ao 0) (ak (mC (.int 60)) aK))) (mC (.int 41))) [0,8] oU))
    vK)
noncomputable def wb:ag -> OS:=
    (aD (aF 8 (cF (ak (mC (.int 34)) (ak (mC (.int 92)) (ak (mC (.int 32)) (ak (mC (.int 9)) (ak (mC (.int 10)) (ak (mC (.int 13)) (ak (mC (.int 91)) (ak (mC (.int 93)) (ak (mC (.int 123)) (ak (mC (.int 125)) (ak (mC (.int 44)) (ak (mC (.int 58)) (ak (mC (.int 97)) (ak (mC (.int 98)) (ak (mC (.int 34)) (ak (mC (.int 200)) (ak (mC (.int 0)) (ak (mC (.int 11)) (ak (mC (.int 12)) (ak (mC (.int 31)) aK))))))))))))))))))))))
    v5)
noncomputable def nk:ag -> OS:=
    (aD (bz (aA (mOp gEq (mOp bC (bK ck (ak (ao 0) (ak (mC (.int 61)) aK))) (mC (.int 2))) (mC (.int 0))))
    (aD (jZ 3 (xD []))
    (aD (jY 4 (mOp dQ (ao 1) (mC (.int 1)))
    oP)
    (aD (aF 5 (gA (mOp dQ (ao 1) (mC (.int 1))) [] sm sU))
    (aD (jX 6 (mUn xt (ao 2))
    oZ)
    (aD (cw 2 (aF 7 (bK iB (ak (ao 2) aK))))
    (cw 7 (ij 3 (cS (hU (bK cx (ak (ao 7) aK)) (mOp uL (ao 7) (lg 3 aB)))))))))))
    bA)
    wb)
noncomputable def wu:ag -> OS:=
    (aD (aF 2 (mOp dQ (ao 1) (mC (.int 0))))
    nk)
noncomputable def Cn:ag -> OS:=
    (aD (aF 1 (bK dU (ak (ao 0) (ak (mOp dj (mC (.int 1)) (mOp bC (bK ck (ak (ao 0) (ak (mC (.int 62)) aK))) (mC (.int 9)))) aK))))
    wu)
noncomputable def qA:List PV->OE:=fnP 1 10 Cn
theorem jC(ns:List Int)(k:Int):fB [.lst (ns.map .int),.int k]=.ok (.sh (.int (PG.cell ns k))):=by
 unfold fB pO PG.cell
 cases ns with
 |nil=>simp
 | cons n r=>
   have hp:(0:Int)<(r.length:Int)+1:=by omega
   have hm:0<=k%((r.length:Int)+1):=Int.emod_nonneg _ (by omega)
   have hm2:k%((r.length:Int)+1)<(r.length:Int)+1:=Int.emod_lt_of_pos _ hp
   have hi:(k%((r.length:Int)+1)).toNat<(n ::r).length:=by rw[List.length_cons];omega
   have ha:atP (PV.int n ::r.map .int) (k%((r.length:Int)+1))=some (.int ((n ::r).getD (k%((r.length:Int)+1)).toNat 0)):=by
    rw[vg _ _ hm]
    have:(PV.int n ::r.map .int)=(n ::r).map .int:=rfl
    rw[this,List.getElem?_map,List.getElem?_eq_getElem hi,List.getD_eq_getElem?_getD,List.getElem?_eq_getElem hi];rfl
   simp[hp,ha]
theorem bL(ns:List Int)(k:Int):ck [.lst (ns.map .int),.int k]=.ok (.sh (.int (PG.mix ns k))):=by
 unfold PG.mix;simp[oo,oy,qV,ck,jC]
theorem iQ(n:Int):dY [.int n]=.ok (.sh (.bl true)):=by
 unfold dY oh;simp
theorem rX(ns:List Int):cf hX [] (ns.map .int)=.ok (ns.map fun _=>.bl true):=
 fZ _ fun n _=>by simp[hX,iQ]
theorem eN(ns:List Int)(h:ns.length<=1000000):cx [.lst (ns.map .int)]=.ok (.sh (.bl true)):=by
 unfold cx mP
 have e:kW (ns.map fun _=>PV.bl true)=some (ns.map fun _=>true):=by
  have:=ub (ns.map fun _=>true)
  rwa [List.map_map]at this
 simp[rX,b4,bR h,Dh,e]
theorem iE(n:Int):b9 [.int n]=.ok (.sh (.int (PG.point n))):=by
 unfold PG.point
 have ha:atP [PV.int 34,.int 92,.int 47,.int 8,.int 12,.int 10,.int 13,.int 9,.int 0,.int 31,.int 127] (n/8%11)=some (.int (PG.menu.getD (n/8%11).toNat 0)):=by
  have h0:0<=n/8%11:=by omega
  have hi:(n/8%11).toNat<PG.menu.length:=by show _<11;omega
  rw[vg _ _ h0]
  show(PG.menu.map PV.int)[_]?=_
  rw[List.getElem?_map,List.getD_eq_getElem?_getD,List.getElem?_eq_getElem hi];rfl
 by_cases h1:n%8<2
 . simp[cW,cU,cV,cP,cO,cM,cR,eA,b9,h1]
 . by_cases h2:n%8<4
   . simp[cW,cU,cV,cP,cO,cM,cR,eA,b9,h1,h2,ha]
   . by_cases h3:n%8=4
     . simp[cW,cU,cV,cP,cO,cM,cR,eA,b9,h3]
     . by_cases h4:n%8=5
       . simp[cW,cU,cV,cP,cO,cM,cR,eA,b9,h4]
       . by_cases h5:n%8=6
         . simp[cW,cU,cV,cP,cO,cM,cR,eA,b9,h5]
         . simp[cW,cU,cV,cP,cO,cM,cR,eA,b9,h1,h2,h3,h4,h5]
theorem eM(ns:List Int)(k:Int):cu [.lst (ns.map .int),.int k]=.ok (.fr ((PG.points ns k).map .int)):=by
 have hs:=uC ns k;have hm:=uV ns k
 have el:∀ m:Nat,cf ia [some (.sh (.lst (ns.map .int))),some (.sh (.int k))] (bX m) =
   .ok ((List.range m).map fun j:Nat=>.int (PG.point (PG.mix ns (k+1+(j:Int))))):=fun m=>by
  unfold bX
  refine fZ _ fun j _=>?_
  simp[ia,bL,iE]
 have hp:(PG.points ns k).map PV.int=(List.range (qc ns k).toNat).map fun j:Nat=>.int (PG.point (PG.mix ns (k+1+(j:Int)))):=by
  unfold PG.points;rw[List.map_map];rfl
 rw[hp]
 have hl:(qc ns k).toNat<=lim:=bR (by omega)
 unfold qc at hs hl ⊢
 by_cases h3:PG.mix ns k/5%8=3
 . rw[if_pos h3]at hs hl ⊢
   have h1:-4611686018427387904<=PG.mix ns k/40%14 /\ PG.mix ns k/40%14<4611686018427387904:=by omega
   simp[cu,jL,hZ,iq,ie,bL,h3,b4,el,h1];unfold lim;omega
 . rw[if_neg h3]at hs hl ⊢
   have h1:-4611686018427387904<=PG.mix ns k%5 /\ PG.mix ns k%5<4611686018427387904:=by omega
   simp[cu,jL,hZ,iq,ie,bL,h3,b4,el,h1];unfold lim;omega
theorem iD(n:Int)(h:iS n=true):cA [.int n]=.ok (.fr ((aJ n).map .int)):=by
 have hn:0<=n:=by
  unfold iS at h;simp only[Bool.or_eq_true,Bool.and_eq_true,decide_eq_true_eq]at h;omega
 unfold aJ
 by_cases h1:n<128
 . simp[fb,eV,eX,eY,fe,gz,cA,h1]
 . by_cases h2:n<2048
   . have g2:¬ 2048<=n:=by omega
     have g3:¬ 65536<=n:=by omega
     simp[fb,eV,eX,eY,fe,gz,cA,h1,h2,g2,g3,bX,List.range_succ]
   . by_cases h3:n<65536
     . have g2:2048<=n:=by omega
       have g3:¬ 65536<=n:=by omega
       have e1:n/64/64=n/4096:=by omega
       simp[fb,eV,eX,eY,fe,gz,cA,h1,h2,h3,g2,g3,bX,List.range_succ,e1]
     . have g2:2048<=n:=by omega
       have g3:65536<=n:=by omega
       have e1:n/64/64=n/4096:=by omega
       have e2:n/4096/64=n/262144:=by omega
       simp[fb,eV,eX,eY,fe,gz,cA,h1,h2,h3,g2,g3,bX,List.range_succ,e1,e2]
noncomputable def fgB(big:Bool)(w:Int):Int:=if w<10 then 48+w else(if big then 55 else 87)+w
noncomputable def we(n:Int)(big:Bool):Sg:=.hx (fgB big (n/16/16/16%16)) (fgB big (n/16/16%16)) (fgB big (n/16%16)) (fgB big (n%16))
noncomputable def oF:List (Int×Int):=[(34,34),(92,92),(47,47),(8,98),(12,102),(10,110),(13,114),(9,116)]
noncomputable def A7(n m:Int)(b1 b2:Bool):Sg:=.pr (fgB b1 (n/16/16/16%16)) (fgB b1 (n/16/16%16)) (fgB b1 (n/16%16)) (fgB b1 (n%16)) (fgB b2 (m/16/16/16%16)) (fgB b2 (m/16/16%16)) (fgB b2 (m/16%16)) (fgB b2 (m%16))
noncomputable def lF(p n:Int):Sg:=
 if n%5=0 /\ (oF.lookup p).isSome=true then .sh ((oF.lookup p).getD 0) p
 else if 1<n%5 /\ 32<=p /\ p≠34 /\ p≠92 then .pl p
 else if p<65536 then we p (decide (n%5=1))
 else A7 (55296+(p - 65536)/1024) (56320+(p - 65536)%1024) (decide (n%5=1)) (decide (n%5=0))
theorem mN(big:Bool){w:Int}(h:0<=w /\ w<16):dF (fgB big w)=some w:=by
 unfold fgB dF
 by_cases h1:w<10
 . rw[if_pos h1,if_pos (by omega)];congr 1;omega
 . cases big
   . simp only[h1,if_false,Bool.false_eq_true];rw[if_neg (by omega),if_neg (by omega),if_pos (by omega)];congr 1;omega
   . simp only[h1,if_false,if_true];rw[if_neg (by omega),if_pos (by omega)];congr 1;omega
theorem qW{p:Int}(h:(oF.lookup p).isSome=true):((oF.lookup p).getD 0,p)∈shP:=by
 unfold oF at h ⊢
 simp only[List.lookup]at h ⊢
 repeat' split
 all_goals first
  |(rename_i e;have e':=eq_of_beq e;subst e';decide)
  |(simp_all;done)
theorem ny(n:Int)(big:Bool)(h:0<=n /\ n<65536):(dF (fgB big (n/16/16/16%16))=some (n/16/16/16%16) /\ dF (fgB big (n/16/16%16))=some (n/16/16%16) /\ dF (fgB big (n/16%16))=some (n/16%16) /\ dF (fgB big (n%16))=some (n%16)) /\
  cod (fgB big (n/16/16/16%16)) (fgB big (n/16/16%16)) (fgB big (n/16%16)) (fgB big (n%16))=n:=by
 have e1:=mN big (w:=n/16/16/16%16) (by omega);have e2:=mN big (w:=n/16/16%16) (by omega);have e3:=mN big (w:=n/16%16) (by omega);have e4:=mN big (w:=n%16) (by omega)
 refine⟨⟨e1,e2,e3,e4⟩,?_⟩
 simp only[cod,jl e1,jl e2,jl e3,jl e4];omega
theorem mM(p n:Int)(h:iS p=true):Sok (lF p n) /\ Fh (lF p n)=p:=by
 have hr:=jw h
 have hs:p<55296 \/ 57343<p:=by
  unfold iS at h;simp only[Bool.or_eq_true,Bool.and_eq_true,decide_eq_true_eq]at h;omega
 unfold lF;split
 . rename_i c;exact⟨qW c.2,rfl⟩
 . split
   . rename_i c;exact⟨⟨h,c.2.1,c.2.2.1,c.2.2.2⟩,rfl⟩
   . split
     . rename_i c;obtain⟨⟨e1,e2,e3,e4⟩,ec⟩:=ny p (decide (n%5=1)) (by omega)
       exact⟨⟨by rw[e1];rfl,by rw[e2];rfl,by rw[e3];rfl,by rw[e4];rfl,by rw[ec];omega⟩,ec⟩
     . rename_i c;obtain⟨⟨e1,e2,e3,e4⟩,ec⟩:=ny (55296+(p - 65536)/1024) (decide (n%5=1)) (by omega);obtain⟨⟨f1,f2,f3,f4⟩,fc⟩:=ny (56320+(p - 65536)%1024) (decide (n%5=0)) (by omega)
       have g1:(55296+(p - 65536)/1024)/16/16/16%16=13:=by omega
       have g2:(56320+(p - 65536)%1024)/16/16/16%16=13:=by omega
       refine⟨⟨⟨by rw[e1,g1],by rw[jl e2];omega,by rw[jl e2];omega,by rw[e2];rfl,by rw[e3];rfl,by rw[e4];rfl⟩,by rw[f1,g2],by rw[jl f2];omega,by rw[f2];rfl,by rw[f3];rfl,by rw[f4];rfl⟩,?_⟩
       show 65536+1024*(cod _ _ _ _ - 55296)+cod _ _ _ _ - 56320=p;rw[ec,fc];omega
noncomputable def uy(n:Int)(big:Bool):List Int:=[92,117,fgB big (n/16/16/16%16),fgB big (n/16/16%16),fgB big (n/16%16),fgB big (n%16)]
theorem mQ(n:Int)(big:Bool)(found:List Int)(k:Int)(x:Option Sl)(hl:found.length<=10):iI [some (.sh (.int n)),some (.sh (.bl big)),some (.ow (found.map .int)),some (.sh (.int k)),x]=.nx [some (.sh (.int (n/16))),some (.sh (.bl big)),some (.ow ((fgB big (n%16) ::found).map .int)),some (.sh (.int k)),some (.sh (.int (n%16)))]:=by
 have hlim:1+found.length<=lim:=bR (by omega)
 unfold fgB
 by_cases h:n%16<10
 . simp -implicitDefEqProofs [iI,h,hlim]
 . cases big<;>simp -implicitDefEqProofs [iI,h,hlim]
theorem fY(n:Int)(big:Bool):eQ [.int n,.bl big]=.ok (.fr ((uy n big).map .int)):=by
 have h1:=mQ n big [] 0 none (by simp);have h2:=mQ (n/16) big [fgB big (n%16)] 1 (some (.sh (.int (n%16)))) (by simp);have h3:=mQ (n/16/16) big [fgB big (n/16%16),fgB big (n%16)] 2 (some (.sh (.int (n/16%16)))) (by simp);have h4:=mQ (n/16/16/16) big [fgB big (n/16/16%16),fgB big (n/16%16),fgB big (n%16)] 3 (some (.sh (.int (n/16/16%16)))) (by simp);simp only[List.map_cons,List.map_nil]at h1 h2 h3 h4
 have hr:bX 4=[.int 0,.int 1,.int 2,.int 3]:=rfl
 have hb:(-4611686018427387904:Int)<=4 /\ (4:Int)<4611686018427387904:=by omega
 simp -implicitDefEqProofs [ou,oB,qM,eQ,hr,h1,h2,h3,h4,uy]
theorem my(n:Int)(big:Bool)(h:0<=n /\ n<65536):ja (we n big)=uy n big:=by
 obtain⟨⟨e1,e2,e3,e4⟩,_⟩:=ny n big h;obtain⟨g1,g2,g3,g4⟩:=gu (by rw[e1];rfl) (by rw[e2];rfl) (by rw[e3];rfl) (by rw[e4];rfl);show aJ 92++(aJ 117++(aJ _++(aJ _++(aJ _++(aJ _++[])))))=_;rw[g1,g2,g3,g4];rfl
theorem xG(n m:Int)(b1 b2:Bool)(h:0<=n /\ n<65536)(h':0<=m /\ m<65536):ja (A7 n m b1 b2)=uy n b1++uy m b2:=by
 rw[<- my n b1 h,<- my m b2 h']
 show([92,117,_,_,_,_,92,117,_,_,_,_]:List Int).flatMap aJ=([92,117,_,_,_,_]:List Int).flatMap aJ++([92,117,_,_,_,_]:List Int).flatMap aJ
 rw[<- List.flatMap_append];rfl
theorem jW(p n:Int)(h:iS p=true):fz [.int p,.int n]=.ok (.fr ((ja (lF p n)).map .int)):=by
 have hr:=jw h;have h8:=iD p h
 have hl:(oF.map fun p=>(p.1,PV.int p.2)).lookup p=(oF.lookup p).map .int:=by
  unfold oF;simp only[List.map,List.lookup]
  repeat' split
  all_goals rfl
 obtain⟨kv,hkv⟩:∃ kv,kv=oF.map fun p=>(p.1,PV.int p.2):=⟨_,rfl⟩
 rw[<- hkv]at hl
 have hset:jZ 2 (xD [(34,34),(92,92),(47,47),(8,98),(12,102),(10,110),(13,114),(9,116)]) [some (.sh (.int p)),some (.sh (.int n)),none,none,none]=.nx [some (.sh (.int p)),some (.sh (.int n)),some (.tr false (.di kv)),none,none]:=by rw[hkv];rfl
 have hi:∀ a b c d,subAt 2 aB [a,b,some (.tr false (.di kv)),c,d]=some (.di kv):=fun a b c d=>by simp[subAt,eS,slT,aB]
 clear hkv
 have e1:fin (fL [some (.sh (.int p)),some (.sh (.int n)),some (.tr false (.di kv)),none,none])=.ok (.fr ((ja (lF p n)).map .int)):=by
  unfold lF
  by_cases c1:n%5=0 /\ (oF.lookup p).isSome=true
  . rw[if_pos c1];obtain⟨c,hc⟩:=Option.isSome_iff_exists.mp c1.2;have hm:=qW c1.2
    rw[hc]at hm hl ⊢
    have hby:ja (.sh c p)=[92,c]:=by
     simp only[Option.getD_some,shP,List.mem_cons,Prod.mk.injEq,List.not_mem_nil,or_false]at hm
     rcases hm with h|h|h|h|h|h|h|h<;>(obtain⟨rfl,rfl⟩:=h;rfl)
    simp only[Option.map_some]at hl;simp -implicitDefEqProofs [fL,jF,c1.1,tT,wq,hi,hl,hby]
  . rw[if_neg c1]
    have hg1:∀ x,cC (aA (mOp gEq (ao 3) (mC (.int 0)))) (aA (tT false (ao 0) 2 aB)) [some (.sh (.int p)),some (.sh (.int n)),some (.tr false (.di kv)),some (.sh (.int (n%5))),x]=.ok false:=fun x=>by
     by_cases z:n%5=0
     . have:oF.lookup p = none:=by
        cases e:oF.lookup p with
        |none=>rfl
        |some c=>exact absurd ⟨z,by rw[e];rfl⟩ c1
       rw[this]at hl;simp only[Option.map_none]at hl;simp -implicitDefEqProofs [z,tT,hi,hl]
     . simp -implicitDefEqProofs [z]
    have e2:fin (cI [some (.sh (.int p)),some (.sh (.int n)),some (.tr false (.di kv)),some (.sh (.int (n % 5))),none]) = .ok (.fr ((ja (if 1 < n % 5 /\ 32 <= p /\ p ≠ 34 /\ p ≠ 92 then .pl p
          else if p<65536 then we p (decide (n%5=1))else A7 (55296+(p - 65536)/1024) (56320+(p - 65536)%1024) (decide (n%5=1)) (decide (n%5=0)))).map .int)):=by
     have e3:fin (gW [some (.sh (.int p)),some (.sh (.int n)),some (.tr false (.di kv)),some (.sh (.int (n%5))),none])=.ok (.fr ((ja (if p<65536 then we p (decide (n%5=1))else A7 (55296+(p - 65536)/1024) (56320+(p - 65536)%1024) (decide (n%5=1)) (decide (n%5=0)))).map .int)):=by
      by_cases c3:p<65536
      . rw[if_pos c3,my p _ (by omega)];simp -implicitDefEqProofs [gW,c3,fY]
      . rw[if_neg c3,xG _ _ _ _ (by omega) (by omega)]
        have hlim:(uy (55296+(p - 65536)/1024) (decide (n%5=1))).length+(uy (56320+(p - 65536)%1024) (decide (n%5=0))).length<=lim:=by simp[uy]
        simp -implicitDefEqProofs [gW,c3,m4,m9,fY,hlim]
     by_cases d1:1<n%5
     . by_cases d2:32<=p
       . by_cases d3:p=34
         . rw[if_neg (fun z=>z.2.2.1 d3)];simp -implicitDefEqProofs [cI,d1,d2,d3]
           simpa [d3]using e3
         . by_cases d4:p=92
           . rw[if_neg (fun z=>z.2.2.2 d4)];simp -implicitDefEqProofs [cI,d1,d2,d3,d4]
             simpa [d4]using e3
           . rw[if_pos ⟨d1,d2,d3,d4⟩]
             have hb:ja (.pl p)=aJ p:=by show aJ p++[]=_;simp
             rw[hb];simp -implicitDefEqProofs [cI,d1,d2,d3,d4,h8]
       . rw[if_neg (fun z=>d2 z.2.1)];simp -implicitDefEqProofs [cI,d1,d2];exact e3
     . rw[if_neg (fun z=>d1 z.1)];simp -implicitDefEqProofs [cI,d1];exact e3
    have hs:fL [some (.sh (.int p)),some (.sh (.int n)),some (.tr false (.di kv)),none,none]=cI [some (.sh (.int p)),some (.sh (.int n)),some (.tr false (.di kv)),some (.sh (.int (n%5))),none]:=by
     have h3:aF 3 (mOp bC (ao 1) (mC (.int 5))) [some (.sh (.int p)),some (.sh (.int n)),some (.tr false (.di kv)),none,none]=.nx [some (.sh (.int p)),some (.sh (.int n)),some (.tr false (.di kv)),some (.sh (.int (n%5))),none]:=by simp -implicitDefEqProofs
     simp only[fL,qa,h3,jE,jF,Ad,hg1,o7,Bool.false_eq_true,if_false,AQ]
    rw[hs];exact e2
 simp -implicitDefEqProofs only[fz,qd,yA,qj,List.map_cons,List.map_nil,List.length_cons,List.length_nil,List.replicate,List.cons_append,List.nil_append,qa,hset,jE]
 exact e1
noncomputable def lts:List Int->Int->Nat->List Sg
 |[],_,_=>[]
 |p ::l,n,k=>lF p (n/(1+(k:Int)%7)+k) ::lts l n (k+1)
theorem Fx(l:List Int):∀ n k,l.all iS=true->(lts l n k).map Fh=l:=by
 induction l with
 |nil=>intro n k _;rfl
 | cons p l ih=>
   intro n k h;simp only[List.all_cons,Bool.and_eq_true]at h;simp only[lts,List.map_cons,ih n (k+1) h.2,(mM p _ h.1).2]
theorem yO(l:List Int):∀ n k,l.all iS=true->∀ s∈lts l n k,Sok s:=by
 induction l with
 |nil=>intro n k _ s hs;cases hs
 | cons p l ih=>
   intro n k h s hs;simp only[List.all_cons,Bool.and_eq_true]at h
   rcases List.mem_cons.mp hs with z|z
   . subst z;exact(mM p _ h.1).1
   . exact ih n (k+1) h.2 s z
theorem yx(s:Sg)(h:Sok s):(ja s).length<=12:=by
 cases s with
 | pl p=>
   show(aJ p++[]).length<=12
   rw[List.append_nil];unfold aJ
   repeat' split
   all_goals simp
 | sh c p=>
   simp only[Sok,shP,List.mem_cons,Prod.mk.injEq,List.not_mem_nil,or_false]at h
   rcases h with h|h|h|h|h|h|h|h<;>(obtain⟨rfl,rfl⟩:=h;decide)
 | hx a b c d=>
   obtain⟨ha,hb,hc,hd,_⟩:=h;obtain⟨e1,e2,e3,e4⟩:=gu ha hb hc hd
   show(aJ 92++(aJ 117++(aJ a++(aJ b++(aJ c++(aJ d++[])))))).length<=12
   rw[e1,e2,e3,e4,show aJ 92=[92] from rfl,show aJ 117=[117] from rfl];simp
 | pr a b c d e f g h'=>
   obtain⟨⟨f1,_,_,hb,hcc,hd⟩,f5,_,hf,hg,hh⟩:=h;obtain⟨e1,e2,e3,e4⟩:=gu (by rw[f1];rfl) hb hcc hd;obtain⟨e5,e6,e7,e8⟩:=gu (by rw[f5];rfl) hf hg hh
   show(aJ 92++(aJ 117++(aJ a++(aJ b++(aJ c++(aJ d++(aJ 92++(aJ 117++(aJ e++(aJ f++(aJ g++(aJ h'++[])))))))))))).length<=12
   rw[e1,e2,e3,e4,e5,e6,e7,e8,show aJ 92=[92] from rfl,show aJ 117=[117] from rfl];simp
theorem wX(l:List Int)(n:Int)(a:Option Sl):∀(k:Nat) (found:List Int) (x:Option Sl),l.all iS=true->found.length+12*l.length<=100000->∃ x',dM 4 gU (l.map .int) [a,some (.sh (.int n)),some (.ow (found.map .int)),some (.sh (.int (k:Int))),x]=.nx [a,some (.sh (.int n)),some (.ow ((found++PG.inner (lts l n k)).map .int)),some (.sh (.int ((k+l.length:Nat):Int))),x']:=by
 induction l with
 |nil=>intro k found x _ _;exact⟨x,by simp[lts,PG.inner]⟩
 | cons p l ih=>
   intro k found x hp hl;simp only[List.all_cons,Bool.and_eq_true]at hp;simp only[List.length_cons]at hl;have hs:=jW p (n/(1+(k:Int)%7)+k) hp.1;have h12:=yx _ (mM p (n/(1+(k:Int)%7)+k) hp.1).1
   have hlim:found.length+(ja (lF p (n/(1+(k:Int)%7)+k))).length<=lim:=bR (by omega)
   obtain⟨x',h⟩:=ih (k+1) (found++ja (lF p (n/(1+(k:Int)%7)+k))) (some (.sh (.int p))) hp.2 (by simp;omega)
   refine⟨x',?_⟩
   have hd:(0:Int)<1+(k:Int)%7:=by omega
   have hd2:1+(k:Int)%7<1073741824:=by omega
   have ht:gU [a,some (.sh (.int n)),some (.ow (found.map .int)),some (.sh (.int (k:Int))),some (.sh (.int p))]=.nx [a,some (.sh (.int n)),some (.ow ((found++ja (lF p (n/(1+(k:Int)%7)+k))).map .int)),some (.sh (.int ((k+1:Nat):Int))),some (.sh (.int p))]:=by
    simp -implicitDefEqProofs [gU,hd,hd2,hs,hlim]
   rw[List.map_cons,gf];simp only[List.set_cons_succ,List.set_cons_zero,ht,nj,h]
   have e:k+1+l.length=k+(l.length+1):=by omega
   simp[lts,PG.inner,e]
theorem wN(l:List Int):∀ n k,(PG.inner (lts l n k)).length<=12*l.length \/ l.all iS=false:=by
 induction l with
 |nil=>intro n k;left;simp[lts,PG.inner]
 | cons p l ih=>
   intro n k
   by_cases h1:iS p=true
   . rcases ih n (k+1)with h|h
     . left;have h12:=yx _ (mM p (n/(1+(k:Int)%7)+k) h1).1
       show(ja _++PG.inner (lts l n (k+1))).length<=_
       rw[List.length_append,List.length_cons];omega
     . right;simp[h]
   . right;simp[h1]
theorem gd(l:List Int)(n:Int)(h:l.all iS=true)(hl:l.length<=1000):dn [.lst (l.map .int),.int n]=.ok (.fr ((PG.txt (lts l n 0)).map .int)):=by
 obtain⟨x',h1⟩:=wX l n (some (.sh (.lst (l.map .int)))) 0 [34] none h (by simp;omega)
 have hlen:(PG.inner (lts l n 0)).length<=12*l.length:=by
  rcases wN l n 0 with z|z
  . exact z
  . rw[h]at z;cases z
 have hlim:(PG.inner (lts l n 0)).length+1+1<=lim:=bR (by omega)
 simp only[List.map_cons,List.map_nil,Int.ofNat_zero,Int.cast_ofNat_Int]at h1
 simp -implicitDefEqProofs only[dn,pk,yA,qj,List.map_cons,List.map_nil,List.length_cons,List.length_nil,List.replicate,List.cons_append,List.nil_append,qa]
 simp -implicitDefEqProofs [mO,mK,h1,mR,hlim,PG.txt]
noncomputable def low:Nat->Int->Int×Nat
 |0,n=>(n,0)
 |k+1,n=>if n%10=0 then((low k (n/10)).1,(low k (n/10)).2+1)else(n,0)
noncomputable def sv(s ds:List Int):Int:=if s=[45]then -cv ds else cv ds
noncomputable def exV:Option (Int×List Int×List Int)->Int
 |none=>0
 |some (_,s,ds)=>sv s ds
noncomputable def mwV(m:Nm):Int:=if m.neg then -cv (m.ip++m.fr)else cv (m.ip++m.fr)
noncomputable def dN(m:Nat):List Nat:=(Nat.toDigits 10 m).map Char.toNat
theorem An(m:Nat):(Str.ofString (toString ((m:Nat):Int))).cps.toList=dN m:=by
 rw[Str.ofString_eq_toList]
 have:(toString ((m:Nat):Int)).toList=Nat.toDigits 10 m:=by
  show(Nat.repr m).toList=_
  simp[Nat.repr]
 rw[this];rfl
theorem za(m:Nat):sA (Str.ofString (toString ((m:Nat):Int)))=(dN m).map fun c=>PV.str ⟨#[c]⟩:=by
 unfold sA;rw[An]
theorem yC:∀ d:Nat,d<10->(Nat.digitChar d).toNat=48+d:=by decide
theorem oR(m:Nat):(dN m).map (fun c:Nat=>(c:Int))=bV m:=by
 induction m using Nat.strongRecOn with
 | _ m ih=>
   rw[bV]
   by_cases h:m<10
   . rw[if_pos h];unfold dN;rw[Nat.toDigits_of_lt_base h];simp[yC m h]
   . rw[if_neg h,<- ih (m/10) (by omega)];unfold dN;rw[Nat.toDigits_of_base_le (by decide) (by omega)];simp[yC (m%10) (by omega)]
theorem D9(m:Nat):∀ c∈dN m,48<=c /\ c<=57:=by
 intro c hc
 have h1:(c:Int)∈bV m:=by rw[<- oR];exact List.mem_map.mpr ⟨c,hc,rfl⟩
 have:=tQ m _ h1;unfold isF at this;omega
theorem DL(m:Nat):(dN m).length=(bV m).length:=by rw[<- oR];simp
theorem BP(m:Nat)(h:m<100000):((m:Nat):Int).natAbs.log2<1920:=by
 have e:((m:Nat):Int).natAbs=m:=by omega
 rw[e]
 by_cases h0:m=0
 . subst h0;decide
 . have:=(Nat.log2_lt h0 (k:=17)).mpr (by omega);omega
theorem ud{me:ag->OE}{f:Nat->PV}(m:Nat)(h:m<100000)(hme:∀ c∈dN m,me ([]++[some (.sh (.str ⟨#[c]⟩))])=.ok (.sh (f c)))(ma:ag->OE)(ρ:ag)(ha:ma ρ=.ok (.sh (.int (m:Int)))):
  j7 (mUn ko ma) [] me ρ=.ok (.fr ((dN m).map f)):=by
 have h2:(dN m).length<=lim:=by
  rw[DL];have:=j3 4 m (by omega);exact bR (by omega)
 have e1:(mUn ko ma) ρ=.ok (.sh (.str (Str.ofString (toString (m:Int))))):=by
  have:ko (.int m)=some (.sh (.str (Str.ofString (toString (m:Int))))):=if_pos (BP m h)
  simp[ha,this]
 have hel:cf me [] ((dN m).map fun c=>PV.str ⟨#[c]⟩)=.ok ((dN m).map f):=fZ _ hme
 rw[yY,e1];simp only[OE.bind,RV.pv,za,b4,List.map_nil,hel];simp[noX,h2]
theorem FT(c:Nat)(h:48<=c /\ c<=57):dZ ([]++[some (.sh (.str ⟨#[c]⟩))])=.ok (.sh (.int ((c:Int) - 48))):=by
 have:wF (.str ⟨#[c]⟩)=some (.sh (.int ((c:Int) - 48))):=if_pos h
 simp[dZ,this]
theorem DB(c:Nat):df ([]++[some (.sh (.str ⟨#[c]⟩))])=.ok (.sh (.int (c:Int))):=by
 have:y6 (.str ⟨#[c]⟩)=some (.sh (.int ((⟨#[c]⟩:Str).cps.getD 0 0:Nat))):=rfl
 simp[df,this]
noncomputable def ws(ds:List Int):List Int:=ds.map (· - 48)
theorem wl1(l:List Int):∀(w:Int) (a b c d x e f g:Option Sl),∃ x',dM 5 da (l.map .int) [a,b,c,d,some (.sh (.int w)),x,e,f,g]=.nx [a,b,c,d,some (.sh (.int (l.foldl (fun n d=>n*10+d) w))),x',e,f,g]:=by
 induction l with
 |nil=>intro w a b c d x e f g;exact⟨x,rfl⟩
 | cons y l ih=>
   intro w a b c d x e f g;obtain⟨x',h⟩:=ih (w*10+y) a b c d (some (.sh (.int y))) e f g
   refine⟨x',?_⟩
   have ht:da [a,b,c,d,some (.sh (.int w)),some (.sh (.int y)),e,f,g]=.nx [a,b,c,d,some (.sh (.int (w*10+y))),some (.sh (.int y)),e,f,g]:=by simp -implicitDefEqProofs [da]
   rw[List.map_cons,gf];simp only[List.set_cons_succ,List.set_cons_zero,ht,nj,h,List.foldl_cons]
theorem wl2(l:List Int):∀(row:List Int) (w p:Int) (a b c x f g:Option Sl),row.length+l.length<=1000->∃ x',dM 5 ez (l.map .int) [a,b,c,some (.ow (row.map .int)),some (.sh (.int w)),x,some (.sh (.int p)),f,g]=.nx [a,b,c,some (.ow ((row++l.map (48+·)).map .int)),some (.sh (.int (l.foldl (fun n d=>n*10+d) w))),x',some (.sh (.int (p - l.length))),f,g]:=by
 induction l with
 |nil=>intro row w p a b c x f g _;exact⟨x,by simp⟩
 | cons y l ih=>
   intro row w p a b c x f g hl;simp only[List.length_cons]at hl;obtain⟨x',h⟩:=ih (row++[48+y]) (w*10+y) (p - 1) a b c (some (.sh (.int y))) f g (by simp;omega)
   refine⟨x',?_⟩
   have hlim:row.length<lim:=n9 (by omega)
   have ht:ez [a,b,c,some (.ow (row.map .int)),some (.sh (.int w)),some (.sh (.int y)),some (.sh (.int p)),f,g]=.nx [a,b,c,some (.ow ((row++[48+y]).map .int)),some (.sh (.int (w*10+y))),some (.sh (.int y)),some (.sh (.int (p - 1))),f,g]:=by simp -implicitDefEqProofs [ez,hlim]
   rw[List.map_cons,gf];simp only[List.set_cons_succ,List.set_cons_zero,ht,nj,h,List.foldl_cons]
   have e1:p - 1 - (l.length:Int)=p - ((l.length:Int)+1):=by omega
   simp[e1]
theorem vV(ds:List Int):∀ w,(ws ds).foldl (fun n d=>n*10+d) w=ds.foldl (fun n d=>10*n+d - 48) w:=by
 induction ds with
 |nil=>intro w;rfl
 | cons d ds ih=>
   intro w
   simp only[ws,List.map_cons,List.foldl_cons]at ih ⊢
   have:w*10+(d - 48)=10*w+d - 48:=by omega
   rw[this];exact ih _
theorem Ek(ds:List Int):(ws ds).map (48+·)=ds:=by
 unfold ws;rw[List.map_map]
 conv=>rhs;rw[<- List.map_id ds]
 refine List.map_congr_left fun x _=>?_
 show 48+(x - 48)=x;omega
theorem yL(xs ys:List Int):cv (xs++ys)=ys.foldl (fun n d=>10*n+d - 48) (cv xs):=by
 unfold cv;rw[List.foldl_append]
noncomputable def bf(n:Int):List Int:=if n/17%3=1 then([48+n/19%10,48+n/23%4,48]:List Int).take (1+n/29%3).toNat else[]
noncomputable def dC(n:Int):Option (Int×List Int×List Int):=if n/31%3=1 then some (if n/41%2=0 then 101 else 69,if n/43%3=1 then[45]else if n/43%3=2 then[43]else[],(if n/47%4=1 then[48]else[])++bV (n/37%30).toNat)else none
noncomputable def cy(n:Int):Nm:=⟨decide (n%3=0),bV (n/3%100000).toNat,bf n,dC n⟩
theorem uG(n:Int):Nok (cy n) where
 ip:=by
  by_cases h:(n/3%100000).toNat=0
  . left;show bV _=_;rw[h,xB]
  . right;exact xn _ (by omega)
 fr:=fun b hb=>by
  have hb':b∈bf n:=hb
  unfold bf at hb';split at hb'
  . have:=List.mem_of_mem_take hb';simp at this;unfold isF;omega
  . cases hb'
 ex:=fun e s ds h=>by
  have h':dC n=some (e,s,ds):=h
  unfold dC at h';split at h'
  . injection h' with h'
    injection h' with h1 h'
    injection h' with h2 h3
    refine⟨?_,?_,?_,?_⟩
    . rw[<- h1];split<;>simp
    . rw[<- h2];split
      . simp
      . split<;>simp
    . rw[<- h3];intro z;exact B0 _ (List.append_eq_nil_iff.mp z).2
    . rw[<- h3];intro b hb
      rcases List.mem_append.mp hb with z|z
      . split at z
        . simp at z;subst z;decide
        . cases z
      . exact tQ _ b z
  . cases h'
noncomputable abbrev nE(n:Int)(a b c d e f g:Option Sl):ag:=[some (.sh (.int n)),some (.sh (.bl (decide (n%3=0)))),a,b,c,d,e,f,g]
theorem t8(k:Nat):∀(n p:Int) (F:Nat),n≠0->n.natAbs<10 ^ k->k<F->gg fh gp F [some (.sh (.int n)),some (.sh (.int p))]=.nx [some (.sh (.int (low k n).1)),some (.sh (.int (p+(low k n).2)))]:=by
 induction k with
 |zero=>intro n p F h0 h _;simp at h;omega
 | succ k ih=>
   intro n p F h0 h hF
   obtain⟨F,rfl⟩:∃ G,F=G+1:=⟨F - 1,by omega⟩
   unfold gg low
   by_cases hm:n%10=0
   . rw[Nat.pow_succ]at h
     have h1:n/10≠0:=by omega
     have h2:(n/10).natAbs<10 ^ k:=by generalize 10 ^ k=z at h;omega
     have:=ih (n/10) (p+1) F h1 h2 (by omega)
     have hc:fh [some (.sh (.int n)),some (.sh (.int p))]=.ok true:=by simp[fh,hm]
     have hb:gp [some (.sh (.int n)),some (.sh (.int p))]=.nx [some (.sh (.int (n/10))),some (.sh (.int (p+1)))]:=by simp[gp]
     simp[hc,hb,hm,this,Int.add_assoc,Int.add_comm 1]
   . simp[fh,hm]
noncomputable def pairOf(k:Nat)(n p:Int):PV:=if n=0 then .tup [.int 0,.int 0]else .tup [.int (low k n).1,.int (p+(low k n).2)]
theorem yD(k:Nat)(n p:Int)(h:n.natAbs<10 ^ k)(hk:k<=90000):cJ [.int n,.int p]=.ok (.sh (pairOf k n p)):=by
 unfold pairOf
 by_cases h0:n=0
 . rw[if_pos h0,h0];simp -implicitDefEqProofs [cJ,kI]
 . rw[if_neg h0];have:=t8 k n p fuel h0 h (by unfold fuel;omega);simp -implicitDefEqProofs [cJ,kI,lG,lL,h0,this]
theorem zL(ds:List Int)(h:∀ b∈ds,isF b):0<=cv ds /\ cv ds<10 ^ ds.length:=by
 have key:∀(ds:List Int) (w:Int) (k:Nat),(∀ b∈ds,isF b)->0<=w /\ w<10 ^ k->0<=ds.foldl (fun n d=>10*n+d - 48) w /\ ds.foldl (fun n d=>10*n+d - 48) w<10 ^ (k+ds.length):=by
  intro ds
  induction ds with
  |nil=>intro w k _ hw;simpa using hw
  | cons d ds ih=>
    intro w k hd hw;have h1:=hd d List.mem_cons_self;unfold isF at h1
    have h2:(10:Int) ^ (k+1)=10 ^ k*10:=Int.pow_succ 10 k
    have:=ih (10*w+d - 48) (k+1) (fun b hb=>hd b (List.mem_cons_of_mem _ hb)) ⟨by omega,by rw[h2];omega⟩;rw[List.foldl_cons,List.length_cons];rw[show k+1+ds.length=k+(ds.length+1) by omega]at this;exact this
 have:=key ds 0 0 h (by simp);rw[Nat.zero_add]at this;exact this
theorem yK(m:Nm)(h:Nok m)(k:Nat)(hk:(m.ip++m.fr).length<=k):(mwV m).natAbs<10 ^ k:=by
 have hip:∀ b∈m.ip++m.fr,isF b:=by
  intro b hb
  rcases List.mem_append.mp hb with z|z
  . rcases h.ip with e|⟨d,r,e,h1,h2,h3⟩
    . rw[e]at z;simp at z;subst z;decide
    . rw[e]at z
      rcases List.mem_cons.mp z with y|y
      . unfold isF;omega
      . exact h3 b y
  . exact h.fr b z
 obtain⟨b1,b2⟩:=zL _ hip
 have b3:(10:Int) ^ (m.ip++m.fr).length<=10 ^ k:=by
  have:=Nat.pow_le_pow_right (n:=10) (by decide) hk
  have e1:((10 ^ (m.ip++m.fr).length:Nat):Int)=(10:Int) ^ (m.ip++m.fr).length:=by norm_cast
  have e2:((10 ^ k:Nat):Int)=(10:Int) ^ k:=by norm_cast
  omega
 have e2:((10 ^ k:Nat):Int)=(10:Int) ^ k:=by norm_cast
 unfold mwV
 split<;>omega
theorem gT(n:Int)(hn:0<=n):dr [.int n]=.ok (.sh (.tup [.lst ((PG.nb (cy n)).map .int),pairOf 20 (mwV (cy n)) (exV (cy n).ex - (cy n).fr.length)])):=by
 obtain⟨K,hK⟩:∃ K:Nat,K=(n/3%100000).toNat:=⟨_,rfl⟩
 have hK1:n/3%100000=(K:Int):=by omega
 have hK2:K<100000:=by omega
 have hdl:=j3 4 K (by omega)
 obtain⟨sg,hsg⟩:∃ sg:List Int,sg=if n%3=0 then[45]else[]:=⟨_,rfl⟩
 have hsl:sg.length<=1:=by rw[hsg];split<;>simp
 have ok:=uG n
 have hfl:(bf n).length<=3:=by unfold bf;split<;>simp;omega
 have hb20:=yK (cy n) ok 20 (by show(bV (n/3%100000).toNat++bf n).length<=20;rw[<- hK];simp;omega);have hpl:=yD 20 (mwV (cy n)) (exV (cy n).ex - (cy n).fr.length) hb20 (by decide)
 have c1:aF 2 (j7 (mUn ko (mOp bC (mOp b7 (ao 0) (mC (.int 3))) (mC (.int 100000)))) [] dZ) (nE n none none none none none none none)=.nx (nE n (some (.ow ((ws (bV K)).map .int))) none none none none none none):=by
  have:=ud (me:=dZ) (f:=fun c=>.int ((c:Int) - 48)) K hK2 (fun c hc=>FT c (D9 K c hc)) (mOp bC (mOp b7 (ao 0) (mC (.int 3))) (mC (.int 100000))) (nE n none none none none none none none) (by simp -implicitDefEqProofs [hK1]);rw[yR,this]
  have e:(dN K).map (fun c:Nat=>PV.int ((c:Int) - 48))=(ws (bV K)).map .int:=by
   rw[<- oR];simp[ws,List.map_map,Function.comp_def]
  rw[e];rfl
 have c2:aF 3 (jR (bw (ao 1)) (cF (ak (mC (.int 45)) aK)) (cF aK)) (nE n (some (.ow ((ws (bV K)).map .int))) none none none none none none)=.nx (nE n (some (.ow ((ws (bV K)).map .int))) (some (.ow (sg.map .int))) none none none none none):=by
  rw[hsg]
  by_cases h:n%3=0<;>simp -implicitDefEqProofs [h]
 have hel:cf fS [] ((ws (bV K)).map .int)=.ok ((bV K).map .int):=by
  have:(bV K).map PV.int=(ws (bV K)).map fun x=>.int (48+x):=by
   conv=>lhs;rw[<- Ek (bV K)]
   rw[List.map_map];rfl
  rw[this]
  exact fZ _ fun x _=>by simp -implicitDefEqProofs [fS]
 have hdlim:(bV K).length<=lim:=bR (by omega)
 have hslim:sg.length+(bV K).length<=lim:=bR (by omega)
 have c3:aF 3 (mOp lr (ao 3) (nI (ao 2) [] fS)) (nE n (some (.ow ((ws (bV K)).map .int))) (some (.ow (sg.map .int))) none none none none none)=.nx (nE n (some (.ow ((ws (bV K)).map .int))) (some (.ow ((sg++bV K).map .int))) none none none none none):=by
  simp -implicitDefEqProofs [b4,hel,hdlim,hslim]
 obtain⟨x1,w1⟩:=wl1 (ws (bV K)) 0 (some (.sh (.int n))) (some (.sh (.bl (decide (n%3=0))))) (some (.sh (.lst ((ws (bV K)).map .int)))) (some (.ow ((sg++bV K).map .int))) none none none none;rw[vV]at w1
 have w1':dM 5 da ((ws (bV K)).map .int) (nE n (some (.sh (.lst ((ws (bV K)).map .int)))) (some (.ow ((sg++bV K).map .int))) (some (.sh (.int 0))) none none none none)=.nx (nE n (some (.sh (.lst ((ws (bV K)).map .int)))) (some (.ow ((sg++bV K).map .int))) (some (.sh (.int (cv (bV K))))) x1 none none none):=w1
 obtain⟨W,hW⟩:∃ W,W=ws (bV K):=⟨_,rfl⟩
 obtain⟨R1,hR1⟩:∃ R1,R1=sg++bV K:=⟨_,rfl⟩
 have hR1l:R1.length<=6:=by rw[hR1];simp;omega
 obtain⟨V1,hV1⟩:∃ V1,V1=cv (bV K):=⟨_,rfl⟩
 rw[<- hW,<- hR1,<- hV1]at w1';rw[<- hW]at c1 c2;rw[<- hW,<- hR1]at c3
 have c4:∃ x2,bz (aA (mOp gEq (mOp bC (mOp b7 (ao 0) (mC (.int 17))) (mC (.int 3))) (mC (.int 1)))) (aD (bg 3 (mC (.int 46))) (jY 5 (BV (cF (ak (mOp bC (mOp b7 (ao 0) (mC (.int 19))) (mC (.int 10))) (ak (mOp bC (mOp b7 (ao 0) (mC (.int 23))) (mC (.int 4))) (ak (mC (.int 0)) aK)))) (mC .non) (wx (mOp dj (mC (.int 1)) (mOp bC (mOp b7 (ao 0) (mC (.int 29))) (mC (.int 3)))))) ez)) bA
   (nE n (some (.sh (.lst (W.map .int)))) (some (.ow (R1.map .int))) (some (.sh (.int V1))) x1 (some (.sh (.int 0))) none none) =
   .nx (nE n (some (.sh (.lst (W.map .int)))) (some (.ow ((R1++frB (bf n)).map .int))) (some (.sh (.int ((bf n).foldl (fun n d=>10*n+d - 48) V1)))) x2 (some (.sh (.int (-((bf n).length:Int))))) none none):=by
  by_cases h17:n/17%3=1
  . obtain⟨L,hL⟩:∃ L:List Int,L=([n/19%10,n/23%4,0]:List Int).take (1+n/29%3).toNat:=⟨_,rfl⟩
    have hLf:bf n=L.map (48+·):=by
     unfold bf;rw[if_pos h17,hL,List.map_take];simp
    have hLl:L.length=(1+n/29%3).toNat:=by rw[hL];simp;omega
    have hcut:zy [PV.int (n/19%10),.int (n/23%4),.int 0] none (some (1+n/29%3))=L.map .int:=by
     have e1:vm 3 3 (some (1+n/29%3))=(1+n/29%3).toNat:=by
      unfold vm;dsimp only;rw[if_neg (by omega)];omega
     show([PV.int (n/19%10),.int (n/23%4),.int 0].drop 0).take (vm 3 3 (some (1+n/29%3)) - 0)=_
     rw[e1,hL,List.map_take];rfl
    obtain⟨x2,w2⟩:=wl2 L (R1++[46]) V1 0 (some (.sh (.int n))) (some (.sh (.bl (decide (n%3=0))))) (some (.sh (.lst (W.map .int)))) x1 none none (by simp;omega)
    refine⟨x2,?_⟩
    have hne:bf n≠[]:=by
     rw[hLf];intro z;have:=congrArg List.length z;simp[hLl]at this;omega
    have hfold:L.foldl (fun n d=>n*10+d) V1=(bf n).foldl (fun n d=>10*n+d - 48) V1:=by
     have:=vV (bf n) V1;rw[<- this,hLf]
     congr 1
     unfold ws;rw[List.map_map]
     conv=>lhs;rw[<- List.map_id L]
     refine List.map_congr_left fun x _=>?_
     show x=48+x - 48;omega
    have hrow:R1++[46]++L.map (48+·)=R1++frB (bf n):=by
     unfold frB;rw[if_neg hne,hLf];simp
    rw[hfold,hrow]at w2
    have hlen:(0:Int) - (L.length:Int)=-((bf n).length:Int):=by rw[hLf];simp
    rw[hlen]at w2
    have hl1:R1.length<lim:=n9 (by omega)
    have w2':=w2
    simp only[List.map_append,List.map_cons,List.map_nil]at w2';simp -implicitDefEqProofs [h17,hl1,hcut,w2']
  . refine⟨x1,?_⟩
    have hf:bf n=[]:=by unfold bf;rw[if_neg h17]
    rw[hf];simp -implicitDefEqProofs [h17,frB]
 obtain⟨x2,c4⟩:=c4
 obtain⟨R2,hR2⟩:∃ R2,R2=R1++frB (bf n):=⟨_,rfl⟩
 have hR2l:R2.length<=10:=by
  rw[hR2];unfold frB
  split<;>simp<;>omega
 have hV2:(bf n).foldl (fun n d=>10*n+d - 48) V1=cv (bV K++bf n):=by rw[yL,hV1]
 rw[hV2,<- hR2]at c4
 obtain⟨V2,hV2e⟩:∃ V2,V2=cv (bV K++bf n):=⟨_,rfl⟩
 rw[<- hV2e]at c4
 have c5:∃ y z,bz (aA (mOp gEq (mOp bC (mOp b7 (ao 0) (mC (.int 31))) (mC (.int 3))) (mC (.int 1)))) (aD (aF 7 (mOp bC (mOp b7 (ao 0) (mC (.int 37))) (mC (.int 30)))) (aD (bg 3 (mOp i7 (cF (ak (mC (.int 101)) (ak (mC (.int 69)) aK))) (mOp bC (mOp b7 (ao 0) (mC (.int 41))) (mC (.int 2))))) (aD (aF 8 (mOp gEq (mOp bC (mOp b7 (ao 0) (mC (.int 43))) (mC (.int 3))) (mC (.int 1)))) (aD (bz (bw (ao 8)) (bg 3 (mC (.int 45))) (bz (aA (mOp gEq (mOp bC (mOp b7 (ao 0) (mC (.int 43))) (mC (.int 3))) (mC (.int 2)))) (bg 3 (mC (.int 43))) bA)) (aD (bz (aA (mOp gEq (mOp bC (mOp b7 (ao 0) (mC (.int 47))) (mC (.int 4))) (mC (.int 1)))) (bg 3 (mC (.int 48))) bA) (aD (aF 3 (mOp lr (ao 3) (j7 (mUn ko (ao 7)) [] df))) (aF 6 (mOp dj (ao 6) (jR (bw (ao 8)) (mUn fi (ao 7)) (ao 7)))))))))) bA
   (nE n (some (.sh (.lst (W.map .int)))) (some (.ow (R2.map .int))) (some (.sh (.int V2))) x2 (some (.sh (.int (-((bf n).length:Int))))) none none) =
   .nx (nE n (some (.sh (.lst (W.map .int)))) (some (.ow ((R2++exB (dC n)).map .int))) (some (.sh (.int V2))) x2 (some (.sh (.int (exV (dC n) - (bf n).length)))) y z):=by
  by_cases h31:n/31%3=1
  . obtain⟨M,hM⟩:∃ M:Nat,M=(n/37%30).toNat:=⟨_,rfl⟩
    have hM1:n/37%30=(M:Int):=by omega
    refine⟨some (.sh (.int (M:Int))),some (.sh (.bl (decide (n/43%3=1)))),?_⟩
    obtain⟨eb,heb⟩:∃ eb:Int,eb=if n/41%2=0 then 101 else 69:=⟨_,rfl⟩
    obtain⟨sx,hsx⟩:∃ sx:List Int,sx=if n/43%3=1 then[45]else if n/43%3=2 then[43]else[]:=⟨_,rfl⟩
    obtain⟨zx,hzx⟩:∃ zx:List Int,zx=if n/47%4=1 then[48]else[]:=⟨_,rfl⟩
    have hex:dC n=some (eb,sx,zx++bV M):=by unfold dC;rw[if_pos h31,heb,hsx,hzx,hM]
    have hsxl:sx.length <= 1:=by rw [hsx]; split
                                 . simp
                                 . split<;>simp
    have hzxl:zx.length<=1:=by rw[hzx];split<;>simp
    have hml:=j3 4 M (by omega)
    have hat:atP [PV.int 101,.int 69] (n/41%2)=some (.int eb):=by
     have:n/41%2=0 \/ n/41%2=1:=by omega
     rw[heb]
     rcases this with h|h<;>rw[h]<;>rfl
    have hcvz:cv (zx++bV M)=(M:Int):=by
     have:cv (bV M)=M:=By M
     rw[hzx];split
     . rw[yL];exact this
     . exact this
    have hexv:exV (dC n)=if n/43%3=1 then -(M:Int)else(M:Int):=by
     rw[hex];show sv sx (zx++bV M)=_;unfold sv;rw[hcvz,hsx]
     by_cases h1:n/43%3=1
     . simp[h1]
     . by_cases h2:n/43%3=2<;>simp[h1,h2]
    have l1:R2.length<lim:=n9 (by omega)
    have l2:R2.length+1<lim:=n9 (by omega)
    obtain⟨R3,hR3⟩:∃ R3,R3=R2++[eb]:=⟨_,rfl⟩
    have g1:bg 3 (mOp i7 (cF (ak (mC (.int 101)) (ak (mC (.int 69)) aK))) (mOp bC (mOp b7 (ao 0) (mC (.int 41))) (mC (.int 2)))) (nE n (some (.sh (.lst (W.map .int)))) (some (.ow (R2.map .int))) (some (.sh (.int V2))) x2 (some (.sh (.int (-((bf n).length:Int))))) (some (.sh (.int (M:Int)))) none)=.nx (nE n (some (.sh (.lst (W.map .int)))) (some (.ow (R3.map .int))) (some (.sh (.int V2))) x2 (some (.sh (.int (-((bf n).length:Int))))) (some (.sh (.int (M:Int)))) none):=by
     rw[hR3];simp -implicitDefEqProofs [hat,l1]
    have hR3l:R3.length<=11:=by rw[hR3];simp;omega
    have l3:R3.length<lim:=n9 (by omega)
    obtain⟨R4,hR4⟩:∃ R4,R4=R3++sx:=⟨_,rfl⟩
    have g2:bz (bw (ao 8)) (bg 3 (mC (.int 45))) (bz (aA (mOp gEq (mOp bC (mOp b7 (ao 0) (mC (.int 43))) (mC (.int 3))) (mC (.int 2)))) (bg 3 (mC (.int 43))) bA) (nE n (some (.sh (.lst (W.map .int)))) (some (.ow (R3.map .int))) (some (.sh (.int V2))) x2 (some (.sh (.int (-((bf n).length:Int))))) (some (.sh (.int (M:Int)))) (some (.sh (.bl (decide (n/43%3=1))))))=.nx (nE n (some (.sh (.lst (W.map .int)))) (some (.ow (R4.map .int))) (some (.sh (.int V2))) x2 (some (.sh (.int (-((bf n).length:Int))))) (some (.sh (.int (M:Int)))) (some (.sh (.bl (decide (n/43%3=1)))))):=by
     rw[hR4,hsx]
     by_cases h1:n/43%3=1
     . simp -implicitDefEqProofs [h1,l3]
     . by_cases h2:n/43%3=2<;>simp -implicitDefEqProofs [h1,h2,l3]
    have hR4l:R4.length<=12:=by rw[hR4];simp;omega
    have l4:R4.length<lim:=n9 (by omega)
    obtain⟨R5,hR5⟩:∃ R5,R5=R4++zx:=⟨_,rfl⟩
    have g3:bz (aA (mOp gEq (mOp bC (mOp b7 (ao 0) (mC (.int 47))) (mC (.int 4))) (mC (.int 1)))) (bg 3 (mC (.int 48))) bA (nE n (some (.sh (.lst (W.map .int)))) (some (.ow (R4.map .int))) (some (.sh (.int V2))) x2 (some (.sh (.int (-((bf n).length:Int))))) (some (.sh (.int (M:Int)))) (some (.sh (.bl (decide (n/43%3=1))))))=.nx (nE n (some (.sh (.lst (W.map .int)))) (some (.ow (R5.map .int))) (some (.sh (.int V2))) x2 (some (.sh (.int (-((bf n).length:Int))))) (some (.sh (.int (M:Int)))) (some (.sh (.bl (decide (n/43%3=1)))))):=by
     rw[hR5,hzx]
     by_cases h1:n/47%4=1<;>simp -implicitDefEqProofs [h1,l4]
    have hR5l:R5.length<=13:=by rw[hR5];simp;omega
    have l5:R5.length+(bV M).length<=lim:=bR (by omega)
    have hcs:=ud (me:=df) (f:=fun c=>.int (c:Int)) M (by omega) (fun c _=>DB c) (ao 7) (nE n (some (.sh (.lst (W.map .int)))) (some (.ow (R5.map .int))) (some (.sh (.int V2))) x2 (some (.sh (.int (-((bf n).length:Int))))) (some (.sh (.int (M:Int)))) (some (.sh (.bl (decide (n/43%3=1)))))) (by simp)
    have hdd:(dN M).map (fun c:Nat=>PV.int (c:Int))=(bV M).map .int:=by rw[<- oR,List.map_map];rfl
    rw[hdd]at hcs
    have g4:aF 3 (mOp lr (ao 3) (j7 (mUn ko (ao 7)) [] df)) (nE n (some (.sh (.lst (W.map .int)))) (some (.ow (R5.map .int))) (some (.sh (.int V2))) x2 (some (.sh (.int (-((bf n).length:Int))))) (some (.sh (.int (M:Int)))) (some (.sh (.bl (decide (n/43%3=1))))))=.nx (nE n (some (.sh (.lst (W.map .int)))) (some (.ow ((R5++bV M).map .int))) (some (.sh (.int V2))) x2 (some (.sh (.int (-((bf n).length:Int))))) (some (.sh (.int (M:Int)))) (some (.sh (.bl (decide (n/43%3=1)))))):=by
     simp -implicitDefEqProofs only[yR,Fi,hcs,sQ,List.getElem?_cons_succ,List.getElem?_cons_zero,n8,FR,FE,DK,List.length_map,l5,if_true,sI,cN,AY,List.set_cons_succ,List.set_cons_zero,List.map_append]
    have hRex:R5++bV M=R2++exB (dC n):=by
     rw[hex,hR5,hR4,hR3];show _=R2++(eb ::(sx++(zx++bV M)));simp
    rw[hRex]at g4
    have g5:aF 6 (mOp dj (ao 6) (jR (bw (ao 8)) (mUn fi (ao 7)) (ao 7))) (nE n (some (.sh (.lst (W.map .int)))) (some (.ow ((R2++exB (dC n)).map .int))) (some (.sh (.int V2))) x2 (some (.sh (.int (-((bf n).length:Int))))) (some (.sh (.int (M:Int)))) (some (.sh (.bl (decide (n/43%3=1))))))=.nx (nE n (some (.sh (.lst (W.map .int)))) (some (.ow ((R2++exB (dC n)).map .int))) (some (.sh (.int V2))) x2 (some (.sh (.int (exV (dC n) - (bf n).length)))) (some (.sh (.int (M:Int)))) (some (.sh (.bl (decide (n/43%3=1)))))):=by
     rw[hexv];generalize (R2++exB (dC n)).map PV.int=RR
     by_cases h1:n/43%3=1
     . have e:-((bf n).length:Int) + -(M:Int)=-(M:Int) - (bf n).length:=by omega
       simp -implicitDefEqProofs [h1,e]
     . have e:-((bf n).length:Int)+(M:Int)=(M:Int) - (bf n).length:=by omega
       simp -implicitDefEqProofs [h1,e]
    have g0:aF 7 (mOp bC (mOp b7 (ao 0) (mC (.int 37))) (mC (.int 30))) (nE n (some (.sh (.lst (W.map .int)))) (some (.ow (R2.map .int))) (some (.sh (.int V2))) x2 (some (.sh (.int (-((bf n).length:Int))))) none none)=.nx (nE n (some (.sh (.lst (W.map .int)))) (some (.ow (R2.map .int))) (some (.sh (.int V2))) x2 (some (.sh (.int (-((bf n).length:Int))))) (some (.sh (.int (M:Int)))) none):=by
     simp -implicitDefEqProofs [hM1]
    have g1b:aF 8 (mOp gEq (mOp bC (mOp b7 (ao 0) (mC (.int 43))) (mC (.int 3))) (mC (.int 1))) (nE n (some (.sh (.lst (W.map .int)))) (some (.ow (R3.map .int))) (some (.sh (.int V2))) x2 (some (.sh (.int (-((bf n).length:Int))))) (some (.sh (.int (M:Int)))) none)=.nx (nE n (some (.sh (.lst (W.map .int)))) (some (.ow (R3.map .int))) (some (.sh (.int V2))) x2 (some (.sh (.int (-((bf n).length:Int))))) (some (.sh (.int (M:Int)))) (some (.sh (.bl (decide (n/43%3=1)))))):=by
     simp -implicitDefEqProofs
    have gt:aA (mOp gEq (mOp bC (mOp b7 (ao 0) (mC (.int 31))) (mC (.int 3))) (mC (.int 1))) (nE n (some (.sh (.lst (W.map .int)))) (some (.ow (R2.map .int))) (some (.sh (.int V2))) x2 (some (.sh (.int (-((bf n).length:Int))))) none none)=.ok true:=by
     simp -implicitDefEqProofs [h31]
    rw[Ad,gt];simp only[o7,if_true,qa,g0,jE,g1,g1b,g2,g3,g4,g5]
  . refine⟨none,none,?_⟩
    have hex:dC n=none:=by unfold dC;rw[if_neg h31]
    rw[hex]
    have e:(0:Int) - ((bf n).length:Int)=-((bf n).length:Int):=by omega
    simp -implicitDefEqProofs [h31,exB,exV,e]
 obtain⟨y,z,c5⟩:=c5
 have hnb:R2++exB (dC n)=PG.nb (cy n):=by
  rw[hR2,hR1,hsg];show _=(if(decide (n%3=0))=true then[45]else[])++(bV (n/3%100000).toNat++(frB (bf n)++exB (dC n)));rw[<- hK];simp
 rw[hnb]at c5
 have hmw:(if n%3=0 then -V2 else V2)=mwV (cy n):=by
  rw[hV2e];show _=(if decide (n%3=0)=true then -cv (bV (n/3%100000).toNat++bf n)else cv (bV (n/3%100000).toNat++bf n));rw[<- hK];simp
 have c6:bz (bw (ao 1)) (aF 4 (mUn fi (ao 4))) bA (nE n (some (.sh (.lst (W.map .int)))) (some (.ow ((PG.nb (cy n)).map .int))) (some (.sh (.int V2))) x2 (some (.sh (.int (exV (dC n) - (bf n).length)))) y z)=.nx (nE n (some (.sh (.lst (W.map .int)))) (some (.ow ((PG.nb (cy n)).map .int))) (some (.sh (.int (mwV (cy n))))) x2 (some (.sh (.int (exV (dC n) - (bf n).length)))) y z):=by
  rw[<- hmw]
  by_cases h:n%3=0<;>simp -implicitDefEqProofs [h]
 have hpl':cJ [.int (mwV (cy n)),.int (exV (dC n) - (bf n).length)]=.ok (.sh (pairOf 20 (mwV (cy n)) (exV (dC n) - (bf n).length))):=hpl
 have c7:fin (gJ (nE n (some (.sh (.lst (W.map .int)))) (some (.ow ((PG.nb (cy n)).map .int))) (some (.sh (.int (mwV (cy n))))) x2 (some (.sh (.int (exV (dC n) - (bf n).length)))) y z))=.ok (.sh (.tup [.lst ((PG.nb (cy n)).map .int),pairOf 20 (mwV (cy n)) (exV (dC n) - (bf n).length)])):=by
  generalize PG.nb (cy n)=RR;simp -implicitDefEqProofs [gJ,fT,hpl']
 have c0:aF 1 (mOp gEq (mOp bC (ao 0) (mC (.int 3))) (mC (.int 0))) [some (.sh (.int n)),none,none,none,none,none,none,none,none]=.nx (nE n none none none none none none none):=by
  simp -implicitDefEqProofs
 have c3b:aF 4 (mC (.int 0)) (nE n (some (.ow (W.map .int))) (some (.ow (R1.map .int))) none none none none none)=.nx (nE n (some (.ow (W.map .int))) (some (.ow (R1.map .int))) (some (.sh (.int 0))) none none none none):=by simp -implicitDefEqProofs
 have c3c:cw 2 (jY 5 (ao 2) da) (nE n (some (.ow (W.map .int))) (some (.ow (R1.map .int))) (some (.sh (.int 0))) none none none none)=.nx (nE n (some (.sh (.lst (W.map .int)))) (some (.ow (R1.map .int))) (some (.sh (.int V1))) x1 none none none):=by
  simp -implicitDefEqProofs [fT,w1']
 have c3d:aF 6 (mC (.int 0)) (nE n (some (.sh (.lst (W.map .int)))) (some (.ow (R1.map .int))) (some (.sh (.int V1))) x1 none none none)=.nx (nE n (some (.sh (.lst (W.map .int)))) (some (.ow (R1.map .int))) (some (.sh (.int V1))) x1 (some (.sh (.int 0))) none none):=by simp -implicitDefEqProofs
 simp -implicitDefEqProofs only[dr,ni,yA,qj,List.map_cons,List.map_nil,List.length_cons,List.length_nil,List.replicate,List.cons_append,List.nil_append,qa,c0,jE,kH,c1,kQ,c2,kx,c3,kP,c3b,kM,c3c,kE,c3d,kz,c4,ka,c5,kK,c6]
 exact c7
noncomputable def wc(j:Int):Int:=if j=0 then 32 else if j=1 then 9 else if j=2 then 10 else 13
noncomputable def lwh(n:Int):List Int:=if 0<n%4 then[]else(List.range (n/64%3+1).toNat).map fun k:Nat=>wc (n/4/(1+3*(k:Int))%4)
theorem EG(j:Int):wht (wc j)=true:=by
 unfold wc;split
 . rfl
 . split
   . rfl
   . split<;>rfl
theorem iF(n:Int):∀ b∈lwh n,wht b=true:=by
 unfold lwh;split
 . simp
 . intro b hb;obtain⟨k,_,rfl⟩:=List.mem_map.mp hb;exact EG _
theorem dI(n:Int):(lwh n).length<=3:=by
 unfold lwh;split
 . simp
 . simp;omega
theorem wY(n:Int)(j:Nat)(hj:j<3):gn [some (.sh (.int n)),some (.sh (.int j))]=.ok (.sh (.int (wc (n/4/(1+3*(j:Int))%4)))):=by
 have h:¬ (1+3*(j:Int))=0:=by omega
 obtain⟨r,hr⟩:∃ r,r=n/4/(1+3*(j:Int))%4:=⟨_,rfl⟩
 have h4:r=0 \/ r=1 \/ r=2 \/ r=3:=by omega
 rw[<- hr]
 have h5:0<(1+3*(j:Int)):=by omega
 have h6:(1+3*(j:Int))<1073741824:=by omega
 simp -implicitDefEqProofs [gn,h,h5,h6,<- hr]
 rcases h4 with h|h|h|h<;>rw[h]<;>rfl
theorem cm(n:Int):bO [.int n]=.ok (.fr ((lwh n).map .int)):=by
 have el:∀ m:Nat,m<=3->cf gn [some (.sh (.int n))] (bX m)=.ok ((List.range m).map fun j:Nat=>.int (wc (n/4/(1+3*(j:Int))%4))):=fun m hm=>by
  unfold bX
  refine fZ _ fun j hj=>?_
  exact wY n j (by have:=List.mem_range.mp hj;omega)
 have h1:-4611686018427387904<=n/64%3+1 /\ n/64%3+1<4611686018427387904:=by omega
 by_cases h:0<n%4
 . simp[bO,kG,h,lwh]
 . have hp:(lwh n).map PV.int = (List.range (n / 64 % 3 + 1).toNat).map fun j:Nat=>.int (wc (n / 4 / (1 + 3 * (j:Int)) % 4)):=by
    unfold lwh;rw[if_neg h,List.map_map];rfl
   rw[hp];have h2:=el (n/64%3+1).toNat (by omega);simp -implicitDefEqProofs [bO,kG,h,b4,h2,h1];unfold lim;omega
noncomputable def lnm(ns:List Int)(n:Int):List Int:=if n%2=0 then[97+n/2%3]else PG.points ns (11+n/2%37)
theorem qm(ns:List Int)(n:Int):(lnm ns n).all iS=true /\ (lnm ns n).length<14:=by
 unfold lnm;split
 . refine⟨?_,by simp⟩
   have h:n/2%3=0 \/ n/2%3=1 \/ n/2%3=2:=by omega
   rcases h with h|h|h<;>rw[h]<;>decide
 . exact⟨lb _ _,mG _ _⟩
theorem jK(ns:List Int)(n:Int):eD [.lst (ns.map .int),.int n]=.ok (.fr ((lnm ns n).map .int)):=by
 unfold lnm
 by_cases h:n%2=0
 . simp[eD,lU,h]
 . simp[eD,lU,h,eM]
noncomputable def gF(ns:List Int)(n:Int):Lf:=
 if n/5%6=0 then .wd .null else if n/5%6=1 then .wd .tru else if n/5%6=2 then .wd .fal
 else if n/5%6=3 then .tx (lts (PG.points ns (7+n%41)) (n/30) 0)else .nm (cy (n/7))
noncomputable def lfK:Lf->String
 |.wd .null=>"null" | .wd .tru=>"true" | .wd .fal=>"false" | .tx _=>"text" | .nm _=>"number"
theorem Bf(ns:List Int)(n:Int):Lok (gF ns n):=by
 unfold gF;split
 . trivial
 . split
   . trivial
   . split
     . trivial
     . split
       . exact yO _ _ _ (lb _ _)
       . exact uG _
theorem sF(k:Nat)(n p:Int):∃ a b,pairOf k n p=.tup [.int a,.int b]:=by
 unfold pairOf;split
 . exact⟨_,_,rfl⟩
 . exact⟨_,_,rfl⟩
noncomputable def cq(row:List Int):OV:=.ol (row.map fun b=>.sh (.int b))
noncomputable def kS(k:Bool):PV:=.str (if k then "row" else "fields")
noncomputable def frO(k:Bool)(items:List PV)(i:Nat)(nm:List Int):OV:=.ol [.sh (kS k),.ol (items.map .sh),.sh (.int i),.sh (.tup (nm.map .int))]
noncomputable def ndO(s:PV)(a b c:Int):OV:=.ol [.sh s,.sh (.int a),.sh (.int b),.sh (.int c)]
noncomputable def brk(k:Bool):Int:=if k then 93 else 125
theorem ui(xs:List PV):pC (xs.map .sh)=some xs:=by
 induction xs with
 |nil=>rfl
 |cons x xs ih=>simp[pC,ih]
noncomputable abbrev cE(r:OV)(ns fs:List OV)(a b:Option Sl):ag:=[some (.tr true r),some (.tr true (.ol ns)),some (.tr true (.ol fs)),a,b]
theorem qH(row:List Int)(nodes fs:List OV)(k:Bool)(items:List PV)(i:Nat)(nm:List Int)(s:PV)(a b c:Int)(hi:nodes[i]?=some (ndO s a b c))(hr:row.length<100000)(hn:nodes.length<100000):
  km (cE (cq row) nodes (fs++[frO k items i nm]) none none) =
   gq (cE (cq (row++[brk k])) (nodes.set i (ndO s a (row.length+1) nodes.length)) fs (some (.tr false (frO k items i nm))) none):=by
 have hil:i<nodes.length:=by
  rcases Nat.lt_or_ge i nodes.length with z|z
  . exact z
  . rw[List.getElem?_eq_none z]at hi;cases hi
 have e0:jj 3 (qG 2 aB) (cE (cq row) nodes (fs++[frO k items i nm]) none none) =
   .nx (cE (cq row) nodes fs (some (.tr false (frO k items i nm))) none):=by
  unfold jj;rw[A4 (ts:=fs) (x:=frO k items i nm) rfl];simp[frO,slO,nio]
 have p3:∀(x y z u:Option Sl) (ix:ag->OE) (j:Nat) (v:OV),ix [x,y,z,some (.tr false (frO k items i nm)),u]=.ok (.sh (.int j))->j<4->[OV.sh (kS k),.ol (items.map .sh),.sh (.int i),.sh (.tup (nm.map .int))][j]?=some v->subAt 3 (pIx 3 aB ix) [x,y,z,some (.tr false (frO k items i nm)),u]=some v:=fun x y z u ix j v h1 h2 h3=>
  subAt_one (aN rfl rfl) (gZ (aN rfl rfl) h1 rfl (by simp[ixP];omega)) h3
 unfold km;rw[aE e0];unfold lD
 have hd:∀(x y z u:Option Sl),mD (jR (aA (mOp gEq (cj 3 (pIx 3 aB (mC (.int 0)))) (mC (.str "row")))) (mC (.int 93)) (mC (.int 125))) [x,y,z,some (.tr false (frO k items i nm)),u]=.ok (.sh (.int (brk k))):=fun x y z u=>by
  have:=jI (p3 x y z u (mC (.int 0)) 0 (.sh (kS k)) rfl (by omega) rfl)
  cases k<;>simp -implicitDefEqProofs [mD,jR,aA,this,kS,brk,gEq,eqS,bQ]
 have e1:br 0 aB (mD (jR (aA (mOp gEq (cj 3 (pIx 3 aB (mC (.int 0)))) (mC (.str "row")))) (mC (.int 93)) (mC (.int 125)))) (cE (cq row) nodes fs (some (.tr false (frO k items i nm))) none) =
   .nx (cE (cq (row++[brk k])) nodes fs (some (.tr false (frO k items i nm))) none):=by
  rw[oX (ts:=row.map fun b=>.sh (.int b)) rfl (hd _ _ _ _) (by rw[List.length_map];exact bR (n:=row.length+1) (by omega))];simp[cq]
 rw[aE e1]
 have px:∀(x z u:Option Sl) (ns:List OV),ns.length=nodes.length->pIx 1 aB (cj 3 (pIx 3 aB (mC (.int 2)))) [x,some (.tr true (.ol ns)),z,some (.tr false (frO k items i nm)),u]=some [.ix i]:=fun x z u ns hns=>
  gZ (aN rfl rfl) (jI (p3 x _ z u (mC (.int 2)) 2 (.sh (.int i)) rfl (by omega) rfl)) rfl (by simp[ixP];omega)
 unfold lQ
 have e2:kD 1 (pIx 1 aB (cj 3 (pIx 3 aB (mC (.int 2))))) (mC (.int 2)) (mD (dy 0 aB)) (cE (cq (row++[brk k])) nodes fs (some (.tr false (frO k items i nm))) none) =
   .nx (cE (cq (row++[brk k])) (nodes.set i (ndO s a (row.length+1) c)) fs (some (.tr false (frO k items i nm))) none):=by
  have hl:=ql (eO (ρ:=(cE (cq (row++[brk k])) nodes fs (some (.tr false (frO k items i nm))) none)) (i:=0) (aN rfl rfl));rw[oY (j2:=2) rfl (px _ _ _ nodes rfl) hi rfl rfl rfl (x:=.sh (.int (row.length+1))) (by unfold mD;rw[hl];simp)];rfl
 rw[aE e2];unfold lK
 have e3:kD 1 (pIx 1 aB (cj 3 (pIx 3 aB (mC (.int 2))))) (mC (.int 3)) (mD (dy 1 aB)) (cE (cq (row++[brk k])) (nodes.set i (ndO s a (row.length+1) c)) fs (some (.tr false (frO k items i nm))) none) =
   .nx (cE (cq (row++[brk k])) (nodes.set i (ndO s a (row.length+1) nodes.length)) fs (some (.tr false (frO k items i nm))) none):=by
  have hl:=ql (eO (ρ:=(cE (cq (row++[brk k])) (nodes.set i (ndO s a (row.length+1) c)) fs (some (.tr false (frO k items i nm))) none)) (i:=1) (aN rfl rfl))
  have hi2:(nodes.set i (ndO s a (row.length+1) c))[i]?=some (ndO s a (row.length+1) c):=by simp[hil]
  rw[oY (j2:=3) rfl (px _ _ _ _ (by simp)) hi2 rfl rfl rfl (x:=.sh (.int nodes.length)) (by unfold mD;rw[hl];simp)];simp[ndO]
 rw[aE e3]
theorem qC(x y z:Option Sl)(k:Bool)(items:List PV)(i:Nat)(nm:List Int)(hit:items.length<100000):
  aF 4 (dG (ak (cj 3 (pIx 3 aB (mC (.int 0)))) (ak (mUn iT (cj 3 (pIx 3 aB (mC (.int 1))))) aK))) [x,y,z,some (.tr false (frO k items i nm)),none] =
   .nx [x,y,z,some (.tr false (frO k items i nm)),some (.sh (.tup [kS k,.tup items]))]:=by
 have p3:∀(ix:ag->OE) (j:Nat) (v:OV),ix [x,y,z,some (.tr false (frO k items i nm)),none]=.ok (.sh (.int j))->j<4->[OV.sh (kS k),.ol (items.map .sh),.sh (.int i),.sh (.tup (nm.map .int))][j]?=some v->subAt 3 (pIx 3 aB ix) [x,y,z,some (.tr false (frO k items i nm)),none]=some v:=fun ix j v h1 h2 h3=>
  subAt_one (aN rfl rfl) (gZ (aN rfl rfl) h1 rfl (by simp[ixP];omega)) h3
 have h0:=jI (p3 (mC (.int 0)) 0 (.sh (kS k)) rfl (by omega) rfl)
 have h1:cj 3 (pIx 3 aB (mC (.int 1))) [x,y,z,some (.tr false (frO k items i nm)),none]=.ok (.al items):=by
  unfold cj;rw[p3 (mC (.int 1)) 1 (.ol (items.map .sh)) rfl (by omega) rfl];simp only[ui]
 simp -implicitDefEqProofs [aF,h0,h1,iT]
theorem uT(row:List Int)(nodes:List OV)(k:Bool)(items:List PV)(i:Nat)(nm:List Int)(s:PV)(a b c:Int)(hi:nodes[i]?=some (ndO s a b c))(hr:row.length<100000)(hn:nodes.length<100000)(hit:items.length<100000):
  bT [.tr true (cq row),.tr true (.ol nodes),.tr true (.ol [frO k items i nm])] =
   .ok (.tup [kS k,.tup items]) [some (cq (row++[brk k])),some (.ol (nodes.set i (ndO s a (row.length+1) nodes.length))),some (.ol [])]:=by
 unfold bT fnI;have e:=qH row nodes [] k items i nm s a b c hi hr hn;rw[List.nil_append]at e
 have e0:iZ 5 [.tr true (cq row),.tr true (.ol nodes),.tr true (.ol [frO k items i nm])]=(cE (cq row) nodes [frO k items i nm] none none):=rfl
 rw[if_pos (show List.length [Sl.tr true (cq row),Sl.tr true (.ol nodes),Sl.tr true (.ol [frO k items i nm])]=3 from rfl),e0,e];unfold gq;rw[aE (qC _ _ _ k items i nm hit)];unfold iX;have h:=o9 (eO (ρ:=(cE (cq (row++[brk k])) (nodes.set i (ndO s a (row.length+1) nodes.length)) [] (some (.tr false (frO k items i nm))) (some (.sh (.tup [kS k,.tup items]))))) (i:=2) (aN rfl rfl));simp -implicitDefEqProofs [bz,h,gk,cY,vp,mT]
theorem vo(row:List Int)(nodes gs:List OV)(k k':Bool)(items items':List PV)(i i':Nat)(nm nm':List Int)(s s2:PV)(a b c a2 b2 c2:Int)(hi:nodes[i]?=some (ndO s a b c))(hr:row.length<100000)(hn:nodes.length<100000)(hit:items.length<100000)(hit':items'.length<100000)
  (h2:k'=false->1<=i /\ nodes[i - 1]?=some (ndO s2 a2 b2 c2)):
  bT [.tr true (cq row),.tr true (.ol nodes),.tr true (.ol (gs++[frO k' items' i' nm']++[frO k items i nm]))] =
   .ok (.tup [kS k,.tup items]) [some (cq (row++[brk k])),some (.ol (if k' then nodes.set i (ndO s a (row.length+1) nodes.length)else(nodes.set i (ndO s a (row.length+1) nodes.length)).set (i - 1) (ndO s2 a2 b2 nodes.length))),
    some (.ol (gs++[frO k' (items'++[if k' then .tup [kS k,.tup items]else .tup [.tup (nm.map .int),.tup [kS k,.tup items]]]) i' nm']))]:=by
 have hil:i<nodes.length:=by
  rcases Nat.lt_or_ge i nodes.length with z|z
  . exact z
  . rw[List.getElem?_eq_none z]at hi;cases hi
 unfold bT fnI;have e:=qH row nodes (gs++[frO k' items' i' nm']) k items i nm s a b c hi hr hn
 have e0:iZ 5 [.tr true (cq row),.tr true (.ol nodes),.tr true (.ol (gs++[frO k' items' i' nm']++[frO k items i nm]))]=(cE (cq row) nodes (gs++[frO k' items' i' nm']++[frO k items i nm]) none none):=rfl
 rw[if_pos (show List.length [Sl.tr true (cq row),Sl.tr true (.ol nodes),Sl.tr true (.ol (gs++[frO k' items' i' nm']++[frO k items i nm]))]=3 from rfl),e0,e];unfold gq;rw[aE (qC _ _ _ k items i nm hit)];unfold iX;generalize hN:nodes.set i (ndO s a (row.length+1) nodes.length)=N
 have hNl:N.length=nodes.length:=by rw[<- hN];simp
 generalize hv:PV.tup [kS k,.tup items]=val;generalize hR:cq (row++[brk k])=R;have h:=o9 (eO (ρ:=(cE R N (gs++[frO k' items' i' nm']) (some (.tr false (frO k items i nm))) (some (.sh val)))) (i:=2) (aN rfl rfl))
 have hg:∀ u:OV,(gs++[u])[gs.length]?=some u:=fun u=>by simp
 have px:∀(x y w v:Option Sl) (u:OV),pIx 2 aB (mUn fi (mC (.int 1))) [x,y,some (.tr true (.ol (gs++[u]))),w,v]=some [.ix gs.length]:=fun x y w v u=>
  gZ (aN rfl rfl) (r:=.sh (.int (-1))) (by simp) rfl (by simp[ixP];omega)
 have p0:∀(x y w v:Option Sl) (its:List PV),cj 2 (pIx 2 (pIx 2 aB (mUn fi (mC (.int 1)))) (mC (.int 0))) [x,y,some (.tr true (.ol (gs++[frO k' its i' nm']))),w,v]=.ok (.sh (kS k')):=fun x y w v its=>
  jI (n5 (aN rfl rfl) (sR (aN rfl rfl) (px _ _ _ _ _) (hg _) (k:=0) (j2:=0) rfl rfl rfl) (hg _) rfl)
 have e1:br 2 (pIx 2 (pIx 2 aB (mUn fi (mC (.int 1)))) (mC (.int 1))) (mD (jR (aA (mOp gEq (cj 2 (pIx 2 (pIx 2 aB (mUn fi (mC (.int 1)))) (mC (.int 0)))) (mC (.str "row")))) (ao 4) (dG (ak (cj 3 (pIx 3 aB (mC (.int 3)))) (ak (ao 4) aK)))))
   (cE R N (gs++[frO k' items' i' nm']) (some (.tr false (frO k items i nm))) (some (.sh val))) =
   .nx (cE R N (gs++[frO k' (items'++[if k' then val else .tup [.tup (nm.map .int),val]]) i' nm']) (some (.tr false (frO k items i nm))) (some (.sh val))):=by
  have p3:cj 3 (pIx 3 aB (mC (.int 3))) (cE R N (gs++[frO k' items' i' nm']) (some (.tr false (frO k items i nm))) (some (.sh val)))=.ok (.sh (.tup (nm.map .int))):=
   jI (subAt_one (aN rfl rfl) (gZ (aN rfl rfl) (k:=3) (j:=3) rfl rfl rfl) rfl)
  have hd:mD (jR (aA (mOp gEq (cj 2 (pIx 2 (pIx 2 aB (mUn fi (mC (.int 1)))) (mC (.int 0)))) (mC (.str "row")))) (ao 4) (dG (ak (cj 3 (pIx 3 aB (mC (.int 3)))) (ak (ao 4) aK))))
    (cE R N (gs++[frO k' items' i' nm']) (some (.tr false (frO k items i nm))) (some (.sh val)))=.ok (.sh (if k' then val else .tup [.tup (nm.map .int),val])):=by
   have q0:=p0 (some (.tr true R)) (some (.tr true (.ol N))) (some (.tr false (frO k items i nm))) (some (.sh val)) items'
   cases k'<;>simp -implicitDefEqProofs [mD,jR,aA,q0,p3,kS,gEq,eqS,bQ]
  rw[wt (j:=gs.length) (j2:=1) rfl (sR (aN rfl rfl) (px _ _ _ _ _) (hg _) (k:=1) (j2:=1) rfl rfl rfl) (hg _) (xs:=items'.map .sh) rfl hd (by rw[List.length_map];exact bR (n:=items'.length+1) (by omega))];simp[frO]
 cases k' with
 | true=>
   have q0:=p0 (some (.tr true R)) (some (.tr true (.ol N))) (some (.tr false (frO k items i nm))) (some (.sh val)) (items'++[val]);rw[if_pos rfl]at e1
   have hb:(!(gs++[frO true items' i' nm']).isEmpty)=true:=by simp
   rw[hb]at h;refine Eq.trans (congrArg _ (aE (ρ':=(cE R N (gs++[frO true (items'++[val]) i' nm']) (some (.tr false (frO k items i nm))) (some (.sh val)))) ?_)) ?_
   . unfold bz;rw[h];refine Eq.trans (aE e1) ?_;simp -implicitDefEqProofs [bz,aA,q0,kS,gEq,eqS,bQ]
   . simp -implicitDefEqProofs [gk,cY,vp,mT]
 | false=>
   obtain⟨h1,h3⟩:=h2 rfl;have q0:=p0 (some (.tr true R)) (some (.tr true (.ol N))) (some (.tr false (frO k items i nm))) (some (.sh val)) (items'++[.tup [.tup (nm.map .int),val]]);rw[if_neg (by simp)]at e1
   have hb:(!(gs++[frO false items' i' nm']).isEmpty)=true:=by simp
   rw[hb]at h
   have hN1:N[i - 1]?=some (ndO s2 a2 b2 c2):=by rw[<- hN,List.getElem?_set_ne (by omega)];exact h3
   have hp2:mOp uu (cj 3 (pIx 3 aB (mC (.int 2)))) (mC (.int 1)) (cE R N (gs++[frO false (items'++[.tup [.tup (nm.map .int),val]]) i' nm']) (some (.tr false (frO k items i nm))) (some (.sh val)))=.ok (.sh (.int (i - 1:Int))):=by
    have q2:=jI (ρ:=(cE R N (gs++[frO false (items'++[.tup [.tup (nm.map .int),val]]) i' nm']) (some (.tr false (frO k items i nm))) (some (.sh val)))) (i:=3) (mp:=pIx 3 aB (mC (.int 2))) (x:=.int i) (subAt_one (aN rfl rfl) (gZ (aN rfl rfl) (k:=2) (j:=2) rfl rfl rfl) rfl);simp[q2]
   have hl:=ql (eO (ρ:=(cE R N (gs++[frO false (items'++[.tup [.tup (nm.map .int),val]]) i' nm']) (some (.tr false (frO k items i nm))) (some (.sh val)))) (i:=1) (aN rfl rfl))
   have e3:=oY (ρ:=(cE R N (gs++[frO false (items'++[.tup [.tup (nm.map .int),val]]) i' nm']) (some (.tr false (frO k items i nm))) (some (.sh val)))) (i:=1) (io:=true) (ts:=N) (j:=i - 1) (j2:=3) (mk:=mC (.int 3)) (md:=mD (dy 1 aB)) (x:=.sh (.int N.length)) rfl
    (gZ (i:=1) (ts:=N) (aN (s:=.tr true (.ol N)) rfl rfl) hp2 rfl (by rw[show((i:Int) - 1)=((i - 1:Nat):Int) by omega];unfold ixP;rw[if_pos (by omega),if_pos (by omega)];simp)) hN1 rfl rfl rfl (by unfold mD;rw[hl])
   refine Eq.trans (congrArg _ (aE (ρ':=(cE R (N.set (i - 1) (ndO s2 a2 b2 N.length)) (gs++[frO false (items'++[.tup [.tup (nm.map .int),val]]) i' nm']) (some (.tr false (frO k items i nm))) (some (.sh val)))) ?_)) ?_
   . unfold bz;rw[h];refine Eq.trans (aE e1) ?_;simp -implicitDefEqProofs [bz,aA,q0,kS,gEq,eqS,bQ];exact e3
   . rw[hNl];simp -implicitDefEqProofs [gk,cY,vp,mT]
structure Fr where
 k:Bool
 items:List PV
 i:Nat
 nm:List Int
structure Nd where
 s:String
 a:Int
 b:Int
 c:Int
structure Bd where
 row:List Int
 nodes:List Nd
 frs:List Fr
 val:PV
noncomputable def Fr.o(f:Fr):OV:=frO f.k f.items f.i f.nm
noncomputable def Nd.o(d:Nd):OV:=ndO (.str d.s) d.a d.b d.c
noncomputable def gy(fs:List Fr):OV:=.ol (fs.reverse.map Fr.o)
noncomputable def iz(ns:List Nd):OV:=.ol (ns.map Nd.o)
theorem g8(f:Fr)(fs:List Fr):gy (f ::fs)=.ol (fs.reverse.map Fr.o++[f.o]):=by simp[gy]
noncomputable def full:List Fr->Bool
 |f ::_=>!f.items.isEmpty
 |[]=>false
noncomputable def inF:List Fr->Bool
 |f ::_=>!f.k
 |[]=>false
theorem lR{ρ:ag}{i:Nat}{io:Bool}{fs:List Fr}(h:ρ[i]?=some (some (.tr io (gy fs)))):cp i aB ρ=.ok (!fs.isEmpty):=by
 rw[o9 (eO (aN h rfl))]
 cases fs<;>simp
theorem AU{ρ:ag}{i:Nat}{io:Bool}{f:Fr}{fs:List Fr}(h:ρ[i]?=some (some (.tr io (gy (f ::fs))))):pIx i aB (mUn fi (mC (.int 1))) ρ=some [.ix fs.length]:=by
 rw[g8]at h;exact gZ (aN h rfl) (r:=.sh (.int (-1))) (by simp) rfl (by simp[ixP];omega)
theorem oO(f:Fr)(fs:List Fr):(fs.reverse.map Fr.o++[f.o])[fs.length]?=some f.o:=by simp
theorem p6{ρ:ag}{i:Nat}{io:Bool}{f:Fr}{fs:List Fr}(k:Int)(j:Nat)(hk:k=j)(hj:j<4)(h:ρ[i]?=some (some (.tr io (gy (f ::fs))))):pIx i (pIx i aB (mUn fi (mC (.int 1)))) (mC (.int k)) ρ=some [.ix fs.length,.ix j]:=by
 have h1:=AU h;rw[g8]at h;subst hk;refine sR (aN h rfl) h1 (oO f fs) (k:=j) rfl rfl ?_;simp[ixP];omega
theorem zZ{ρ:ag}{i:Nat}{io:Bool}{fs:List Fr}(h:ρ[i]?=some (some (.tr io (gy fs)))):
  cC (cp i aB) (aA (mOp gEq (cj i (pIx i (pIx i aB (mUn fi (mC (.int 1)))) (mC (.int 0)))) (mC (.str "fields")))) ρ=.ok (inF fs):=by
 cases fs with
 |nil=>simp[cC,lR h,inF]
 | cons f fs=>
   have hi:=p6 0 0 rfl (by omega) h
   have h':=h
   rw[g8]at h';have hp:=jI (n5 (aN h' rfl) hi (oO f fs) rfl)
   cases hk:f.k<;>simp -implicitDefEqProofs [cC,lR h,inF,aA,hp,hk,kS,gEq,eqS,bQ]
theorem Ef{ρ:ag}{i:Nat}{io:Bool}{fs:List Fr}(h:ρ[i]?=some (some (.tr io (gy fs)))):
  cC (cp i aB) (bw (cj i (pIx i (pIx i aB (mUn fi (mC (.int 1)))) (mC (.int 1))))) ρ=.ok (full fs):=by
 cases fs with
 |nil=>simp[cC,lR h,full]
 | cons f fs=>
   have hi:=p6 1 1 rfl (by omega) h
   have h':=h
   rw[g8]at h'
   have hp:cj i (pIx i (pIx i aB (mUn fi (mC (.int 1)))) (mC (.int 1))) ρ=.ok (.al f.items):=by
    unfold cj;rw[n5 (aN h' rfl) hi (oO f fs) (u:=.ol (f.items.map .sh)) rfl];simp only[ui]
   simp -implicitDefEqProofs [cC,lR h,full,bw,hp,fN]
noncomputable def gc(fs:List Fr)(row:List Int)(n:Int):List Int:=row++lwh (n/3)++(if full fs then 44 ::lwh (n/11)else[])
noncomputable def iL(ns:List Int)(n:Int):List Sg:=lts (lnm ns (n/13)) (n/17) 0
noncomputable def o3(ns:List Int)(n:Int):List Int:=lwh (n/19)++58 ::lwh (n/23)
noncomputable def b6(ns:List Int)(B:Bd)(n:Int):List Int:=if inF B.frs then gc B.frs B.row n++PG.txt (iL ns n)++o3 ns n else gc B.frs B.row n
noncomputable def bp(ns:List Int)(B:Bd)(n:Int):List Nd:=if inF B.frs then B.nodes++[⟨"name",(gc B.frs B.row n).length,(gc B.frs B.row n++PG.txt (iL ns n)).length,0⟩]else B.nodes
noncomputable def dh(ns:List Int)(B:Bd)(n:Int):List Int:=if inF B.frs then lnm ns (n/13)else[]
theorem pV(fs:List Fr)(row:List Int)(n:Int):(gc fs row n).length<=row.length+7:=by
 unfold gc;have h1:=dI (n/3);have h2:=dI (n/11)
 cases full fs<;>simp<;>omega
theorem vW(l:List Int)(n:Int)(h:l.all iS=true)(h2:l.length<14):(PG.txt (lts l n 0)).length<=158:=by
 rcases wN l n 0 with z|z
 . simp[PG.txt];omega
 . rw[h]at z;cases z
theorem qN(ns:List Int)(n:Int):(PG.txt (iL ns n)).length<=158:=vW _ _ (qm ns _).1 (qm ns _).2
theorem lj(ns:List Int)(B:Bd)(n:Int):(b6 ns B n).length<=B.row.length+180:=by
 unfold b6 o3;have h1:=pV B.frs B.row n;have h2:=qN ns n;have h3:=dI (n/19);have h4:=dI (n/23)
 cases inF B.frs<;>simp<;>omega
theorem iP{ρ:ag}{i:Nat}{io:Bool}{row ys:List Int}{me:ag->OE}(h:ρ[i]?=some (some (.tr io (cq row))))(he:me ρ=.ok (.fr (ys.map .int)) \/ me ρ=.ok (.sh (.lst (ys.map .int))))(hl:row.length+ys.length<=1000000):cK i aB me ρ=.nx (ρ.set i (some (.tr io (cq (row++ys))))):=by
 rw[zU (ts:=row.map fun b=>.sh (.int b)) h he (by rw[List.length_map,List.length_map];exact bR hl)];simp[cq,Function.comp_def]
theorem sJ{ρ:ag}{i:Nat}{io:Bool}{row:List Int}{b:Int}{md:ag->OD}(h:ρ[i]?=some (some (.tr io (cq row))))(hd:md ρ=.ok (.sh (.int b)))(hl:row.length<1000000):br i aB md ρ=.nx (ρ.set i (some (.tr io (cq (row++[b]))))):=by
 rw[oX (ts:=row.map fun b=>.sh (.int b)) h hd (by rw[List.length_map];exact bR (n:=row.length+1) (by omega))];simp[cq]
theorem rV{ρ:ag}{i:Nat}{io:Bool}{nds:List Nd}{d:Nd}{md:ag->OD}(h:ρ[i]?=some (some (.tr io (iz nds))))(hd:md ρ=.ok d.o)(hl:nds.length<1000000):br i aB md ρ=.nx (ρ.set i (some (.tr io (iz (nds++[d]))))):=by
 rw[oX (ts:=nds.map Nd.o) h hd (by rw[List.length_map];exact bR (n:=nds.length+1) (by omega))];simp[iz]
theorem oV{ρ:ag}{i:Nat}{io:Bool}{row:List Int}(h:ρ[i]?=some (some (.tr io (cq row)))):dy i aB ρ=.ok (.sh (.int row.length)):=by
 rw[ql (eO (aN h rfl)),List.length_map]
theorem si{ρ:ag}{i:Nat}{io:Bool}{nds:List Nd}(h:ρ[i]?=some (some (.tr io (iz nds)))):dy i aB ρ=.ok (.sh (.int nds.length)):=by
 rw[ql (eO (aN h rfl)),List.length_map]
noncomputable abbrev gE(ns row:List Int)(ds:List Nd)(fs:List Fr)(n:Int)(a b c:Option Sl):ag:=[some (.sh (.lst (ns.map .int))),some (.tr true (cq row)),some (.tr true (iz ds)),some (.tr true (gy fs)),some (.sh (.int n)),a,b,c]
theorem B2(ns:List Int)(B:Bd)(n:Int)(hr:B.row.length<100000)(hn:B.nodes.length<100000):
  dm [.sh (.lst (ns.map .int)),.tr true (cq B.row),.tr true (iz B.nodes),.tr true (gy B.frs),.sh (.int n)] =
   .ok (.tup ((dh ns B n).map .int)) [none,some (cq (b6 ns B n)),some (iz (bp ns B n)),some (gy B.frs),none]:=by
 have hw:∀(ρ:ag) (d:Int),ρ[4]?=some (some (.sh (.int n)))->0<d->d<1000->bK bO (ak (mOp b7 (ao 4) (mC (.int d))) aK) ρ=.ok (.fr ((lwh (n/d)).map .int)):=fun ρ d h h1 h2=>by
  have h3:¬ d=0:=by omega
  have h4:d<1073741824:=by omega
  simp[h,h1,h3,h4,cm]
 have hbl:=pV B.frs B.row n
 have e0:iG (gE ns B.row B.nodes B.frs n none none none) =
   jd (gE ns (gc B.frs B.row n) B.nodes B.frs n (some (.sh (.tup []))) none none):=by
  unfold iG;rw[aE (iP rfl (.inl (hw _ 3 rfl (by omega) (by omega))) (by have:=dI (n/3);omega))];unfold lJ;rw[aE (ρ':=(gE ns (B.row++lwh (n/3)) B.nodes B.frs n (some (.sh (.tup []))) none none)) (by simp[aF])];unfold lB;refine aE ?_;unfold bz;rw[Ef (fs:=B.frs) rfl];have h3:=dI (n/3);have h11:=dI (n/11)
  cases hf:full B.frs with
  |false=>simp[gc,hf,bA]
  | true=>
    refine Eq.trans (aE (sJ (row:=B.row++lwh (n/3)) rfl rfl (by simp;omega))) ?_;refine Eq.trans (iP rfl (.inl (hw _ 11 rfl (by omega) (by omega))) (by simp;omega)) ?_;simp[gc,hf]
 unfold dm fnI;rw[if_pos (show List.length [Sl.sh (.lst (ns.map .int)),.tr true (cq B.row),.tr true (iz B.nodes),.tr true (gy B.frs),.sh (.int n)]=5 from rfl)];show vp 5 (iG _)=_;rw[show iZ 8 [.sh (.lst (ns.map .int)),.tr true (cq B.row),.tr true (iz B.nodes),.tr true (gy B.frs),.sh (.int n)]=(gE ns B.row B.nodes B.frs n none none none) from rfl,e0];unfold jd
 cases hf:inF B.frs with
 | false=>
   rw[aE (ρ':=(gE ns (gc B.frs B.row n) B.nodes B.frs n (some (.sh (.tup []))) none none)) (by
    unfold bz;rw[zZ (fs:=B.frs) rfl,hf]
    rfl)]
   simp[dh,b6,bp,hf,i6,cY,vp,mT]
 | true=>
   generalize hrow:gc B.frs B.row n=row;rw[hrow]at hbl;have ht:=qN ns n;have h19:=dI (n/19);have h23:=dI (n/23);have hnm:=jK ns (n/13);have htx:=gd (lnm ns (n/13)) (n/17) (qm ns _).1 (by have:=(qm ns (n/13)).2;omega)
   change dn _=.ok (.fr ((PG.txt (iL ns n)).map .int))at htx
   rw[aE (ρ':=(gE ns (b6 ns B n) (bp ns B n) B.frs n (some (.sh (.tup ((dh ns B n).map .int)))) (some (.sh (.lst ((lnm ns (n/13)).map .int)))) (some (.sh (.int row.length))))) (by
    unfold bz;rw[zZ (fs:=B.frs) rfl,hf];show aD _ _ _=_;rw[aE (ρ':=(gE ns row B.nodes B.frs n (some (.sh (.tup []))) (some (.ow ((lnm ns (n/13)).map .int))) none)) (by simp[aF,hnm])];rw[aE (ρ':=(gE ns row B.nodes B.frs n (some (.sh (.tup ((dh ns B n).map .int)))) (some (.ow ((lnm ns (n/13)).map .int))) none)) (by simp[aF,iT,dh,hf])];rw[aE (ρ':=(gE ns row B.nodes B.frs n (some (.sh (.tup ((dh ns B n).map .int)))) (some (.ow ((lnm ns (n/13)).map .int))) (some (.sh (.int row.length))))) (by unfold aF;rw[oV (row:=row) rfl];simp)]
    rw[aE (ρ':=(gE ns (row++PG.txt (iL ns n)) B.nodes B.frs n (some (.sh (.tup ((dh ns B n).map .int)))) (some (.sh (.lst ((lnm ns (n/13)).map .int)))) (some (.sh (.int row.length))))) (by
     unfold cw
     exact iP (row:=row) rfl (.inl (by simp[fT,htx])) (by omega))]
    rw[aE (rV (nds:=B.nodes) (d:=⟨"name",row.length,(row++PG.txt (iL ns n)).length,0⟩) rfl (by
     have:=oV (ρ:=(gE ns (row++PG.txt (iL ns n)) B.nodes B.frs n (some (.sh (.tup ((dh ns B n).map .int)))) (some (.sh (.lst ((lnm ns (n/13)).map .int)))) (some (.sh (.int row.length))))) (i:=1) (row:=row++PG.txt (iL ns n)) rfl
     simp[mD,this,Nd.o,ndO]) (by omega))]
    rw[aE (iP (row:=row++PG.txt (iL ns n)) rfl (.inl (hw _ 19 rfl (by omega) (by omega))) (by simp;omega))];rw[aE (sJ (row:=row++PG.txt (iL ns n)++lwh (n/19)) rfl rfl (by simp;omega))];rw[iP (row:=row++PG.txt (iL ns n)++lwh (n/19)++[58]) rfl (.inl (hw _ 23 rfl (by omega) (by omega))) (by simp;omega)]
    simp[b6,bp,hf,hrow,o3])]
   simp[i6,cY,vp,mT]
noncomputable def lfV(ns:List Int)(n:Int):PV:=
 if n/5%6=0 then .non else if n/5%6=1 then .bl true else if n/5%6=2 then .bl false
 else if n/5%6=3 then .tup [.str "text",.tup ((PG.points ns (7+n%41)).map .int)]
 else match pairOf 20 (mwV (cy (n/7))) (exV (cy (n/7)).ex - (cy (n/7)).fr.length)with
  |.tup [.int a,.int b]=>.tup [.str "number",.int a,.int b]
  |_=>.non
theorem Au(ns:List Int)(n:Int)(hn:0<=n):bI [.lst (ns.map .int),.int n]=.ok (.sh (.tup [.str (lfK (gF ns n)),.lst ((lfb (gF ns n)).map .int),lfV ns n])):=by
 have e1:=eM ns (7+n%41);have e2:=gd (PG.points ns (7+n%41)) (n/30) (lb _ _) (by have:=mG ns (7+n%41);omega);have e3:=gT (n/7) (by omega)
 have e0:bI [.lst (ns.map .int),.int n]=fin (gQ [some (.sh (.lst (ns.map .int))),some (.sh (.int n)),some (.sh (.int (n/5%6))),none,none]):=by
  unfold bI fnP;rw[if_pos (show List.length [PV.lst (ns.map .int),.int n]=2 from rfl),show eT 5 [PV.lst (ns.map .int),.int n]=[some (.sh (.lst (ns.map .int))),some (.sh (.int n)),none,none,none] from rfl];unfold iH;rw[aE (ρ':=[some (.sh (.lst (ns.map .int))),some (.sh (.int n)),some (.sh (.int (n/5%6))),none,none]) (by simp[aF])]
 rw[e0]
 have no:∀ i:Int,¬ n/5%6=i->aA (mOp gEq (ao 2) (mC (.int i))) [some (.sh (.lst (ns.map .int))),some (.sh (.int n)),some (.sh (.int (n/5%6))),none,none]=.ok false:=fun i h=>by simp[aA,h]
 have yes:∀ i:Int,n/5%6=i->aA (mOp gEq (ao 2) (mC (.int i))) [some (.sh (.lst (ns.map .int))),some (.sh (.int n)),some (.sh (.int (n/5%6))),none,none]=.ok true:=fun i h=>by simp[aA,h]
 unfold gF lfV
 by_cases h0:n/5%6=0
 . rw[if_pos h0,if_pos h0];exact ky (ρ:=[some (.sh (.lst (ns.map .int))),some (.sh (.int n)),some (.sh (.int (n/5%6))),none,none]) (st (yes 0 h0) (by simp[lfK,lfb,wdb]))
 rw[if_neg h0,if_neg h0]
 by_cases h1:n/5%6=1
 . rw[if_pos h1,if_pos h1];exact ky (ρ:=[some (.sh (.lst (ns.map .int))),some (.sh (.int n)),some (.sh (.int (n/5%6))),none,none]) ((sk (no 0 h0)).trans (st (yes 1 h1) (by simp[lfK,lfb,wdb])))
 rw[if_neg h1,if_neg h1]
 by_cases h2:n/5%6=2
 . rw[if_pos h2,if_pos h2];exact ky (ρ:=[some (.sh (.lst (ns.map .int))),some (.sh (.int n)),some (.sh (.int (n/5%6))),none,none]) ((sk (no 0 h0)).trans ((sk (no 1 h1)).trans (st (yes 2 h2) (by simp[lfK,lfb,wdb]))))
 rw[if_neg h2,if_neg h2]
 by_cases h3:n/5%6=3
 . rw[if_pos h3,if_pos h3];exact ky (ρ:=[some (.sh (.lst (ns.map .int))),some (.sh (.int n)),some (.sh (.int (n/5%6))),some (.sh (.lst ((PG.points ns (7+n%41)).map .int))),none]) ((sk (no 0 h0)).trans ((sk (no 1 h1)).trans ((sk (no 2 h2)).trans (st (yes 3 h3) ((aE (ρ':=[some (.sh (.lst (ns.map .int))),some (.sh (.int n)),some (.sh (.int (n/5%6))),some (.ow ((PG.points ns (7+n%41)).map .int)),none]) (by simp[aF,e1])).trans (by simp[cw,fT,e2,iT,lfK,lfb]))))))
 rw[if_neg h3,if_neg h3];obtain⟨a,b,hab⟩:=sF 20 (mwV (cy (n/7))) (exV (cy (n/7)).ex - (cy (n/7)).fr.length)
 rw[hab]at e3 ⊢
 exact ky (ρ:=[some (.sh (.lst (ns.map .int))),some (.sh (.int n)),some (.sh (.int (n/5%6))),none,some (.sh (.tup [.lst ((PG.nb (cy (n/7))).map .int),.tup [.int a,.int b]]))]) ((sk (no 0 h0)).trans ((sk (no 1 h1)).trans ((sk (no 2 h2)).trans ((sk (no 3 h3)).trans ((aE (ρ':=[some (.sh (.lst (ns.map .int))),some (.sh (.int n)),some (.sh (.int (n/5%6))),none,some (.sh (.tup [.lst ((PG.nb (cy (n/7))).map .int),.tup [.int a,.int b]]))]) (by simp[aF,e3])).trans (by simp[gP,dQ,atP,ixP,lfK,lfb]))))))
theorem xO(n:Int):(PG.nb (cy n)).length<=30:=by
 have h1:(bV (n/3%100000).toNat).length<=5:=j3 4 _ (by omega)
 have h2:(bV (n/37%30).toNat).length<=2:=j3 1 _ (by omega)
 have h3:(frB (bf n)).length<=4:=by
  have:(bf n).length<=3:=by unfold bf;split<;>simp;omega
  unfold frB
  split<;>simp;omega
 have h4:(exB (dC n)).length<=6:=by
  unfold dC;split
  . have hs:(if n/43%3=1 then[45]else if n/43%3=2 then[43]else[]:List Int).length<=1:=by split;simp;split<;>simp
    have ht:(if n/47%4=1 then[48]else[]:List Int).length<=1:=by split<;>simp
    simp only[exB,List.length_append,List.length_cons];omega
  . simp[exB]
 unfold PG.nb cy;simp only[List.length_append]
 split<;>simp<;>omega
theorem vM(ns:List Int)(n:Int):(lfb (gF ns n)).length<=160:=by
 unfold gF;split
 . simp[lfb,wdb]
 . split
   . simp[lfb,wdb]
   . split
     . simp[lfb,wdb]
     . split
       . have:=vW (PG.points ns (7+n%41)) (n/30) (lb _ _) (mG _ _);simp only[lfb];omega
       . have:=xO (n/7);simp only[lfb];omega
noncomputable def gY(nm:List Int)(v:PV):List Fr->List Fr
 |[]=>[]
 |g ::gs=>{ g with items:=g.items++[if g.k then v else .tup [.tup (nm.map .int),v]] } ::gs
noncomputable def Bd.close(B:Bd):Bd:=match B.frs with
 |[]=>B
 | f ::fs=>⟨B.row ++ [brk f.k],
     let ns:=B.nodes.modify f.i fun d=>{ d with b:=B.row.length+1,c:=B.nodes.length }
     if inF fs then ns.modify (f.i - 1) fun d=>{ d with c:=B.nodes.length } else ns,
     gY f.nm (.tup [kS f.k,.tup f.items]) fs,.tup [kS f.k,.tup f.items]⟩
noncomputable def kN(k:Bool):String:=if k then "row" else "fields"
noncomputable def Bd.opn(ns:List Int)(B:Bd)(n:Int):Bd:=
 ⟨b6 ns B n++[if n/5%2=0 then 91 else 123],bp ns B n++[⟨kN (n/5%2=0),(b6 ns B n).length,0,0⟩],⟨n/5%2=0,[],(bp ns B n).length,dh ns B n⟩ ::B.frs,B.val⟩
noncomputable def Bd.leaf(ns:List Int)(B:Bd)(n:Int):Bd:=
 ⟨b6 ns B n++lfb (gF ns n),
   let ds:=bp ns B n++[⟨lfK (gF ns n),(b6 ns B n).length,(b6 ns B n++lfb (gF ns n)).length,(bp ns B n).length+1⟩]
   if inF B.frs then ds.modify (ds.length - 2) fun d=>{ d with c:=ds.length } else ds,
   gY (dh ns B n) (lfV ns n) B.frs,lfV ns n⟩
noncomputable def Bd.step(ns:List Int)(B:Bd)(k:Nat):Bd:=
 if B.frs.isEmpty=false /\ PG.mix ns k%5=1 then Bd.close { B with row:=B.row++lwh (PG.mix ns k/3) }
 else if B.frs.isEmpty=false \/ k=0 then
  if PG.mix ns k%5>2 \/ (k=0 /\ PG.mix ns k%9>0)then B.opn ns (PG.mix ns k)else B.leaf ns (PG.mix ns k)
 else B
noncomputable def FOk(N K:Nat):List Fr->Prop
 |[]=>True
 |f ::fs=>f.i<N /\ f.items.length<=K /\ (fs≠[]->1<=f.i) /\ FOk N K fs
theorem FOk.mono{N K N' K':Nat}(h1:N<=N')(h2:K<=K'):∀{fs:List Fr},FOk N K fs->FOk N' K' fs
 |[],_=>trivial
 |_ ::_,h=>⟨Nat.lt_of_lt_of_le h.1 h1,Nat.le_trans h.2.1 h2,h.2.2.1,FOk.mono h1 h2 h.2.2.2⟩
theorem FOk.gY{N K:Nat}(nm:List Int)(v:PV){fs:List Fr}(h:FOk N K fs):FOk N (K+1) (gY nm v fs):=by
 cases fs with
 |nil=>trivial
 |cons g gs=>exact⟨h.1,by simp;exact h.2.1,h.2.2.1,FOk.mono (Nat.le_refl _) (Nat.le_succ _) h.2.2.2⟩
structure Bok(B:Bd)(k:Nat):Prop where
 row:B.row.length<=400*k
 nodes:B.nodes.length<=2*k
 frs:FOk B.nodes.length k B.frs
 dep:B.frs.length<=k
theorem pE(nm:List Int)(v:PV)(fs:List Fr):(gY nm v fs).length=fs.length:=by cases fs<;>simp[gY]
theorem iO(ns:List Int)(B:Bd)(n:Int):(bp ns B n).length=B.nodes.length+(if inF B.frs then 1 else 0):=by
 unfold bp;cases inF B.frs<;>simp
theorem Bok.close{B:Bd}{k:Nat}(h:Bok B k)(ws:List Int)(hw:ws.length<=3):Bok (Bd.close { B with row:=B.row++ws }) (k+1):=by
 have h1:=h.row;have h2:=h.nodes;have h3:=h.frs;have h4:=h.dep;unfold Bd.close
 cases e:B.frs with
 |nil=>rw[e]at h3 h4;exact⟨by simp;omega,by simp;omega,by simp[e];trivial,by simp[e]⟩
 | cons f fs=>
   rw[e]at h3 h4;simp only[List.length_cons]at h4
   refine⟨by simp;omega,?_,?_,?_⟩
   . simp only;split<;>simp<;>omega
   . have:FOk B.nodes.length (k+1) (gY f.nm (.tup [kS f.k,.tup f.items]) fs):=FOk.gY _ _ h3.2.2.2
     simp only;split<;>simpa using this
   . simp only[pE];omega
theorem Bok.opn{B:Bd}{k:Nat}(h:Bok B k)(ns:List Int)(n:Int):Bok (B.opn ns n) (k+1):=by
 have h1:=h.row;have h2:=h.nodes;have h3:=h.frs;have h4:=h.dep;have hb:=lj ns B n;have hl:=iO ns B n;unfold Bd.opn
 refine⟨by simp;omega,?_,?_,by simp;omega⟩
 . simp only[List.length_append,List.length_singleton]
   split at hl<;>omega
 . simp only[List.length_append,List.length_singleton]
   refine⟨by simp,by simp,?_,FOk.mono (by omega) (by omega) h3⟩
   intro hf
   simp only
   cases e:B.frs with
   |nil=>exact absurd e hf
   |cons g gs=>rw[e]at h3;have:=h3.1;omega
theorem Bok.leaf{B:Bd}{k:Nat}(h:Bok B k)(ns:List Int)(n:Int):Bok (B.leaf ns n) (k+1):=by
 have h1:=h.row;have h2:=h.nodes;have h3:=h.frs;have h4:=h.dep;have hb:=lj ns B n;have hf:=vM ns n;have hl:=iO ns B n
 have hN:(B.leaf ns n).nodes.length=(bp ns B n).length+1:=by unfold Bd.leaf;simp only;split<;>simp
 refine⟨by unfold Bd.leaf;simp;omega,by rw[hN];split at hl<;>omega,?_,by unfold Bd.leaf;simp only[pE];omega⟩
 rw[hN];exact FOk.mono (by omega) (Nat.le_refl _) (FOk.gY _ _ h3)
theorem Bok.mono{B:Bd}{k k':Nat}(h:Bok B k)(hk:k<=k'):Bok B k':=
 ⟨by have:=h.row;omega,by have:=h.nodes;omega,FOk.mono (Nat.le_refl _) hk h.frs,by have:=h.dep;omega⟩
theorem Bok.step{B:Bd}{k:Nat}(h:Bok B k)(ns:List Int):Bok (B.step ns k) (k+1):=by
 unfold Bd.step;split
 . exact h.close _ (dI _)
 . split
   . split
     . exact h.opn ns _
     . exact h.leaf ns _
   . exact h.mono (by omega)
theorem nc(g:Nd->Nd):∀(nodes:List Nd) (i:Nat) (d:Nd),nodes[i]?=some d->(nodes.map Nd.o).set i (g d).o=(nodes.modify i g).map Nd.o
 |[],i,d,h=>by simp at h
 |x ::xs,0,d,h=>by simp at h;subst h;simp
 | x ::xs,i+1,d,h=>by
   simp at h;simp[nc g xs i d h]
theorem vq{nodes:List Nd}{i:Nat}(h:i<nodes.length):∃ d,nodes[i]?=some d:=⟨nodes[i],by simp[h]⟩
theorem vZ{nodes:List Nd}{i:Nat}{d:Nd}(h:nodes[i]?=some d):(nodes.map Nd.o)[i]?=some (ndO (.str d.s) d.a d.b d.c):=by
 rw[List.getElem?_map,h];rfl
theorem AB(B:Bd)(k:Nat)(h:Bok B k)(hk:k<=100)(hf:B.frs≠[]):
  bT [.tr true (cq B.row),.tr true (iz B.nodes),.tr true (gy B.frs)]=.ok B.close.val [some (cq B.close.row),some (iz B.close.nodes),some (gy B.close.frs)]:=by
 have h1:=h.row;have h2:=h.nodes;have h3:=h.frs;unfold Bd.close
 cases e:B.frs with
 |nil=>exact absurd e hf
 | cons f fs=>
   rw[e]at h3;obtain⟨d,hd⟩:=vq h3.1;have hit:=h3.2.1
   cases e2:fs with
   | nil=>
     have:=uT B.row (B.nodes.map Nd.o) f.k f.items f.i f.nm (.str d.s) d.a d.b d.c (vZ hd) (by omega) (by rw[List.length_map];omega) (by omega);refine Eq.trans this ?_;have hs:=nc (fun d=>{ d with b:=B.row.length+1,c:=B.nodes.length }) B.nodes f.i d hd;simp only[inF,gY,gy,iz,List.length_map,Bool.false_eq_true,if_false,<- hs];rfl
   | cons g gs=>
     rw[e2]at h3;have h1i:=h3.2.2.1 (by simp)
     have hit':=h3.2.2.2.2.1
     obtain⟨d2,hd2⟩:=vq (nodes:=B.nodes) (i:=f.i - 1) (by have:=h3.1;omega);have:=vo B.row (B.nodes.map Nd.o) (gs.reverse.map Fr.o) f.k g.k f.items g.items f.i g.i f.nm g.nm (.str d.s) (.str d2.s) d.a d.b d.c d2.a d2.b d2.c (vZ hd) (by omega) (by rw[List.length_map];omega) (by omega) (by omega) (fun _=>⟨h1i,vZ hd2⟩);have hs:=nc (fun d=>{ d with b:=B.row.length+1,c:=B.nodes.length }) B.nodes f.i d hd
     have hd2':(B.nodes.modify f.i fun d=>{ d with b:=B.row.length+1,c:=B.nodes.length })[f.i - 1]?=some d2:=by
      rw[List.getElem?_modify,hd2];simp;intro z;omega
     have hs2:=nc (fun d=>{ d with c:=B.nodes.length }) _ (f.i - 1) d2 hd2';rw[<- hs]at hs2;refine Eq.trans (congrArg bT ?_) (Eq.trans this ?_)
     . simp[gy,iz,Fr.o]
     . cases hg:g.k
       . simp only[inF,gY,gy,iz,List.length_map,hg,Bool.not_false,Bool.false_eq_true,if_true,if_false,<- hs2];simp[Nd.o,Fr.o]
       . simp only[inF,gY,gy,iz,List.length_map,hg,Bool.not_true,Bool.false_eq_true,if_true,if_false,<- hs];simp[Nd.o,Fr.o]
noncomputable def bE(ns:List Int)(m:Int)(B:Bd)(a b c d e f:Option Sl):ag:=[some (.sh (.lst (ns.map .int))),some (.sh (.int m)),some (.tr false (cq B.row)),some (.tr false (iz B.nodes)),some (.tr false (gy B.frs)),some (.sh B.val),a,b,c,d,e,f]
theorem pP(ns:List Int)(m:Int)(B:Bd)(k:Nat)(h:Bok B k)(hk:k<=100)(hf:B.frs≠[])(a b c d e f:Option Sl):
  jj 5 (iY bT [.t 2 aB,.t 3 aB,.t 4 aB]) (bE ns m B a b c d e f)=.nx (bE ns m B.close a b c d e f):=by
 have e1:mU [.t 2 aB,.t 3 aB,.t 4 aB] (bE ns m B a b c d e f)=some [.tr true (cq B.row),.tr true (iz B.nodes),.tr true (gy B.frs)]:=by
  simp[mU,xT,bE,aB,OV.get_nil]
 unfold jj iY;rw[e1];simp only[AB B k h hk hf];simp[dJ,i4,bE,aB,OV.gS,nio]
theorem uK(ns:List Int)(m:Int)(B:Bd)(k:Nat)(h:Bok B k)(hk:k<=100)(a:Option Sl)(n:Int)(c d e f:Option Sl):
  jj 8 (iY dm [.e (ao 0),.t 2 aB,.t 3 aB,.t 4 aB,.e (ao 7)]) (bE ns m B a (some (.sh (.int n))) c d e f) =
   .nx (bE ns m ⟨b6 ns B n,bp ns B n,B.frs,B.val⟩ a (some (.sh (.int n))) (some (.sh (.tup ((dh ns B n).map .int)))) d e f):=by
 have h1:=h.row;have h2:=h.nodes
 have e1:mU [.e (ao 0),.t 2 aB,.t 3 aB,.t 4 aB,.e (ao 7)] (bE ns m B a (some (.sh (.int n))) c d e f)=some [.sh (.lst (ns.map .int)),.tr true (cq B.row),.tr true (iz B.nodes),.tr true (gy B.frs),.sh (.int n)]:=by
  simp[mU,xT,bE,aB,OV.get_nil,fq]
 unfold jj iY;rw[e1];simp only[B2 ns B n (by omega) (by omega)];simp[dJ,i4,bE,aB,OV.gS,nio]
noncomputable abbrev bF(ns:List Int)(m:Int)(C B:Bd)(n:Int)(a e f:Option Sl):ag:=bE ns m C a (some (.sh (.int n))) (some (.sh (.tup ((dh ns B n).map .int)))) (some (.sh (.int (b6 ns B n).length))) e f
noncomputable abbrev bG(ns:List Int)(m:Int)(B:Bd)(n:Int)(a e f:Option Sl):ag:=bF ns m ⟨b6 ns B n,bp ns B n,B.frs,B.val⟩ B n a e f
theorem F0(k:Bool):kS k=.str (kN k):=by cases k<;>rfl
theorem xw(ns:List Int)(m:Int)(B:Bd)(k:Nat)(h:Bok B k)(hk:k<=100)(a:Option Sl)(n:Int)(e f:Option Sl):∃ e',
  (aD (aF 10 (mOp i7 (cF (ak (mC (.str "row")) (ak (mC (.str "fields")) aK))) (mOp bC (mOp b7 (ao 7) (mC (.int 5))) (mC (.int 2)))))
  (aD (br 2 aB (mD (jR (aA (mOp gEq (ao 10) (mC (.str "row")))) (mC (.int 91)) (mC (.int 123)))))
  (aD (br 4 aB (mDl (mDc (mD (ao 10)) (mDc (mD (cF aK)) (mDc (mD (dy 3 aB)) (mDc (mD (ao 8)) mDn))))))
  (br 3 aB (mD (cF (ak (ao 10) (ak (ao 9) (ak (mC (.int 0)) (ak (mC (.int 0)) aK))))))))))
  (bG ns m B n a e f) =
  .nx (bF ns m (B.opn ns n) B n a e' f):=by
 have h1:=h.row;have h2:=h.nodes;have h4:=h.dep;have hb:=lj ns B n;have hl:=iO ns B n
 have hl':(bp ns B n).length<=B.nodes.length+1:=by split at hl<;>omega
 refine⟨some (.sh (kS (n/5%2=0))),?_⟩
 have hz:n/5%2=0 \/ n/5%2=1:=by omega
 rw[aE (ρ':=bG ns m B n a (some (.sh (kS (n/5%2=0)))) f) (by
  rcases hz with z|z<;>simp[aF,bE,z,i7,atP,ixP,kS])]
 rw[aE (sJ (row:=b6 ns B n) (b:=if n/5%2=0 then 91 else 123) rfl (by
  rcases hz with z|z<;>simp -implicitDefEqProofs [mD,jR,aA,bE,z,kS,gEq,eqS,bQ]) (by omega))]
 rw[aE (oX (ts:=B.frs.reverse.map Fr.o) (x:=Fr.o ⟨n/5%2=0,[],(bp ns B n).length,dh ns B n⟩) rfl (by
  have:=si (ρ:=(bG ns m B n a (some (.sh (kS (n/5%2=0)))) f).set 2 (some (.tr false (cq (b6 ns B n++[if n/5%2=0 then 91 else 123]))))) (i:=3) (nds:=bp ns B n) rfl;simp only[mDl,mDc,mD,this]
  simp[mDn,bE,Fr.o,frO,mDl]) (by simp;exact bR (n:=B.frs.length+1) (by omega)))]
 rw[rV (nds:=bp ns B n) (d:=⟨kN (n/5%2=0),(b6 ns B n).length,0,0⟩) rfl (by
  simp[mD,bE,Nd.o,ndO,F0]) (by omega)]
 simp[bE,Bd.opn,gy]
theorem HF(n:Int):(if n/5%2=0 then true else false)=decide (n/5%2=0):=by simp
theorem nA{ρ:ag}{i:Nat}{io:Bool}{g:Fr}{gs:List Fr}{x:PV}{md:ag->OD}(h:ρ[i]?=some (some (.tr io (gy (g ::gs)))))(hd:md ρ=.ok (.sh x))(hl:g.items.length<1000):
  br i (pIx i (pIx i aB (mUn fi (mC (.int 1)))) (mC (.int 1))) md ρ=.nx (ρ.set i (some (.tr io (gy ({ g with items:=g.items++[x] } ::gs))))):=by
 have hi:=p6 1 1 rfl (by omega) h;rw[g8]at h;rw[wt h hi (oO g gs) (xs:=g.items.map .sh) rfl hd (by rw[List.length_map];exact bR (n:=g.items.length+1) (by omega))];rw[g8];simp[Fr.o,frO,List.set_append_right]
theorem x9(ns:List Int)(m:Int)(B:Bd)(k:Nat)(h:Bok B k)(hk:k<=100)(a:Option Sl)(n:Int)(hn:0<=n)(e f:Option Sl):∃ f',
  (aD (aF 11 (bK bI (ak (ao 0) (ak (ao 7) aK))))
  (aD (cK 2 aB (mOp dQ (ao 11) (mC (.int 1))))
  (aD (br 3 aB (mD (cF (ak (mOp dQ (ao 11) (mC (.int 0))) (ak (ao 9) (ak (dy 2 aB) (ak (mOp dj (dy 3 aB) (mC (.int 1))) aK)))))))
  (aD (aF 5 (mOp dQ (ao 11) (mC (.int 2))))
  (bz (cC (cp 4 aB) (aA (mOp gEq (cj 4 (pIx 4 (pIx 4 aB (mUn fi (mC (.int 1)))) (mC (.int 0)))) (mC (.str "fields")))))
  (aD (kD 3 (pIx 3 aB (mUn fi (mC (.int 2)))) (mC (.int 3)) (mD (dy 3 aB)))
  (br 4 (pIx 4 (pIx 4 aB (mUn fi (mC (.int 1)))) (mC (.int 1))) (mD (dG (ak (ao 8) (ak (ao 5) aK))))))
  (bz (cp 4 aB)
  (br 4 (pIx 4 (pIx 4 aB (mUn fi (mC (.int 1)))) (mC (.int 1))) (mD (ao 5)))
  bA))))))
  (bG ns m B n a e f) =
  .nx (bF ns m (B.leaf ns n) B n a e f'):=by
 have h1:=h.row;have h2:=h.nodes;have h3:=h.frs;have h4:=h.dep;have hb:=lj ns B n;have hf:=vM ns n;have hl:=iO ns B n
 have hl':(bp ns B n).length<=B.nodes.length+1:=by split at hl<;>omega
 generalize hF:PV.tup [.str (lfK (gF ns n)),.lst ((lfb (gF ns n)).map .int),lfV ns n]=F
 refine⟨some (.sh F),?_⟩
 generalize hv:lfV ns n=v
 have hi0:atP [PV.str (lfK (gF ns n)),.lst ((lfb (gF ns n)).map .int),v] 0=some (PV.str (lfK (gF ns n))):=by simp[atP,ixP]
 rw[aE (ρ':=bG ns m B n a e (some (.sh F))) (by
  have:=Au ns n hn;rw[hF]at this
  simp[aF,bE,this])]
 rw[aE (iP (row:=b6 ns B n) (ys:=lfb (gF ns n)) rfl (.inr (by simp[bE,<- hF,dQ,atP,ixP])) (by omega))]
 rw[aE (rV (nds:=bp ns B n) (d:=⟨lfK (gF ns n),(b6 ns B n).length,(b6 ns B n++lfb (gF ns n)).length,(bp ns B n).length+1⟩) rfl (by
  have hx:=si (ρ:=(bG ns m B n a e (some (.sh F))).set 2 (some (.tr false (cq (b6 ns B n++lfb (gF ns n)))))) (i:=3) (nds:=bp ns B n) rfl;have hy:=oV (ρ:=(bG ns m B n a e (some (.sh F))).set 2 (some (.tr false (cq (b6 ns B n++lfb (gF ns n)))))) (i:=2) (row:=b6 ns B n++lfb (gF ns n)) rfl;simp only[mD,cF,ak,hx,hy,mOp]
  simp[bE,<- hF,dQ,atP,ixP,Nd.o,ndO]) (by omega))]
 generalize hR:b6 ns B n++lfb (gF ns n)=R;generalize hD:bp ns B n++[⟨lfK (gF ns n),(b6 ns B n).length,R.length,(bp ns B n).length+1⟩]=D
 have hDl:D.length=(bp ns B n).length+1:=by rw[<- hD];simp
 rw[aE (ρ':=bF ns m ⟨R,D,B.frs,v⟩ B n a e (some (.sh F))) (by
  simp[aF,bE,<- hF,dQ,atP,ixP,hv])]
 unfold bz;rw[zZ (fs:=B.frs) rfl];unfold Bd.leaf;rw[hR];simp only[hD,hv]
 cases hg:B.frs with
 | nil=>
   have:=lR (ρ:=bF ns m ⟨R,D,[],v⟩ B n a e (some (.sh F))) (i:=4) (fs:=[]) rfl;simp[inF,gY,this,bA]
 | cons g gs=>
   rw[hg]at h3;have hit:=h3.2.1;have ht:=lR (ρ:=bF ns m ⟨R,D,g ::gs,v⟩ B n a e (some (.sh F))) (i:=4) (fs:=g ::gs) rfl
   cases hgk:g.k with
   | true=>
     have hp:=nA (ρ:=bF ns m ⟨R,D,g ::gs,v⟩ B n a e (some (.sh F))) (i:=4) (g:=g) (gs:=gs) (x:=v) (md:=mD (ao 5)) rfl (by simp[mD,bE]) (by omega);simp[inF,gY,ht,hgk,hp];simp[bE]
   | false=>
     have h2l:2<=D.length:=by
      have hq:inF B.frs=true:=by rw[hg];simp[inF,hgk]
      rw[hq]at hl;simp at hl;omega
     obtain⟨d2,hd2⟩:=vq (nodes:=D) (i:=D.length - 2) (by omega);have hs:=nc (fun d=>{ d with c:=D.length }) D (D.length - 2) d2 hd2
     have hput:=oY (ρ:=bF ns m ⟨R,D,g ::gs,v⟩ B n a e (some (.sh F))) (i:=3) (io:=false) (ts:=D.map Nd.o) (j:=D.length - 2) (j2:=3) (mk:=mC (.int 3)) (md:=mD (dy 3 aB)) (x:=.sh (.int D.length)) (mp:=pIx 3 aB (mUn fi (mC (.int 2)))) rfl
      (gZ (i:=3) (ts:=D.map Nd.o) (aN (s:=.tr false (iz D)) rfl rfl) (r:=.sh (.int (-2))) (k:=-2) (by simp) rfl (by rw[List.length_map];unfold ixP;rw[if_neg (by omega),if_pos (by omega)];congr 1;omega)) (vZ hd2) rfl rfl rfl (by unfold mD;rw[si (nds:=D) rfl])
     have e3:(D.map Nd.o).set (D.length - 2) (.ol ([.sh (.str d2.s),.sh (.int d2.a),.sh (.int d2.b),.sh (.int d2.c)].set 3 (.sh (.int D.length))))=(D.modify (D.length - 2) fun d=>{ d with c:=D.length }).map Nd.o:=hs
     rw[e3]at hput;have hp:=nA (ρ:=bF ns m ⟨R,D.modify (D.length - 2) fun d=>{ d with c:=D.length },g ::gs,v⟩ B n a e (some (.sh F))) (i:=4) (g:=g) (gs:=gs) (x:=.tup [.tup ((dh ns B n).map .int),v]) (md:=mD (dG (ak (ao 8) (ak (ao 5) aK)))) rfl (by simp[mD,bE]) (by omega)
     have:inF (g ::gs)=true:=by simp[inF,hgk]
     rw[this];refine Eq.trans (aE hput) ?_;refine Eq.trans hp ?_;simp[gY,hgk,bE]
theorem EL(ns:List Int)(m:Int)(B:Bd)(k:Nat)(h:Bok B k)(hk:k<=90)(b c d e f:Option Sl):∃ b' c' d' e' f',
  eW (bE ns m B (some (.sh (.int k))) b c d e f)=.nx (bE ns m (B.step ns k) (some (.sh (.int k))) b' c' d' e' f'):=by
 have hm:0<=PG.mix ns k:=(uV ns k).1
 have h1:=h.row;unfold eW;rw[aE (ρ':=bE ns m B (some (.sh (.int k))) (some (.sh (.int (PG.mix ns k)))) c d e f) (by simp[aF,bE,bL])];unfold Bd.step
 generalize PG.mix ns k=n at hm ⊢
 have c1:cC (cp 4 aB) (aA (mOp gEq (mOp bC (ao 7) (mC (.int 5))) (mC (.int 1)))) (bE ns m B (some (.sh (.int k))) (some (.sh (.int n))) c d e f)=.ok (decide (B.frs.isEmpty=false /\ n%5=1)):=by
  have:=lR (ρ:=bE ns m B (some (.sh (.int k))) (some (.sh (.int n))) c d e f) (i:=4) (fs:=B.frs) rfl
  unfold bE at this ⊢
  cases hf:B.frs.isEmpty<;>simp[cC,this,hf,aA]
 unfold bz;rw[c1]
 by_cases hc1:B.frs.isEmpty=false /\ n%5=1
 . rw[if_pos hc1,decide_eq_true hc1]
   refine⟨some (.sh (.int n)),c,d,e,f,Eq.trans (aE (ρ':=bE ns m { B with row:=B.row++lwh (n/3) } (some (.sh (.int k))) (some (.sh (.int n))) c d e f) ?_) ?_⟩
   . exact iP (row:=B.row) rfl (.inl (by simp[bE,cm])) (by have:=dI (n/3);omega)
   . refine pP ns m { B with row:=B.row++lwh (n/3) } (k+1) ⟨?_,?_,?_,?_⟩ (by omega) ?_ _ _ _ _ _ _
     . have:=dI (n/3);simp;omega
     . have:=h.nodes;simp;omega
     . exact FOk.mono (Nat.le_refl _) (Nat.le_succ _) h.frs
     . have:=h.dep;simp;omega
     . simp only;intro z;rw[z]at hc1;exact absurd hc1.1 (by simp)
 . rw[if_neg hc1,decide_eq_false hc1]
   have c2:nO (cp 4 aB) (aA (mOp gEq (ao 6) (mC (.int 0)))) (bE ns m B (some (.sh (.int k))) (some (.sh (.int n))) c d e f)=.ok (decide (B.frs.isEmpty=false \/ k=0)):=by
    have:=lR (ρ:=bE ns m B (some (.sh (.int k))) (some (.sh (.int n))) c d e f) (i:=4) (fs:=B.frs) rfl
    unfold bE at this ⊢
    cases hf:B.frs.isEmpty<;>simp[nO,this,hf,aA]
   show ∃ b' c' d' e' f',OT.bU _ _ _=_
   rw[c2]
   by_cases hc2:B.frs.isEmpty=false \/ k=0
   . rw[if_pos hc2,decide_eq_true hc2];have hb:=uK ns m B k h (by omega) (some (.sh (.int k))) n c d e f
     have hs9:aF 9 (dy 2 aB) (bE ns m ⟨b6 ns B n,bp ns B n,B.frs,B.val⟩ (some (.sh (.int k))) (some (.sh (.int n))) (some (.sh (.tup ((dh ns B n).map .int)))) d e f)=.nx (bE ns m ⟨b6 ns B n,bp ns B n,B.frs,B.val⟩ (some (.sh (.int k))) (some (.sh (.int n))) (some (.sh (.tup ((dh ns B n).map .int)))) (some (.sh (.int (b6 ns B n).length))) e f):=by
      unfold aF;rw[oV (row:=b6 ns B n) rfl];simp[bE]
     have c3:nO (aA (mOp gGt (mOp bC (ao 7) (mC (.int 5))) (mC (.int 2)))) (cC (aA (mOp gEq (ao 6) (mC (.int 0)))) (aA (mOp gGt (mOp bC (ao 7) (mC (.int 9))) (mC (.int 0))))) (bE ns m ⟨b6 ns B n,bp ns B n,B.frs,B.val⟩ (some (.sh (.int k))) (some (.sh (.int n))) (some (.sh (.tup ((dh ns B n).map .int)))) (some (.sh (.int (b6 ns B n).length))) e f)=.ok (decide (n%5>2 \/ (k=0 /\ n%9>0))):=by
      by_cases h5:2<n%5
      . simp[nO,cC,aA,bE,h5]
      . by_cases h0:k=0
        . by_cases h9:0<n%9<;>simp[nO,cC,aA,bE,h5,h0,h9]
        . simp[nO,cC,aA,bE,h5,h0]
     by_cases hc3:n%5>2 \/ (k=0 /\ n%9>0)
     . rw[if_pos hc3];obtain⟨e',he⟩:=xw ns m B k h (by omega) (some (.sh (.int k))) n e f
       refine⟨some (.sh (.int n)),some (.sh (.tup ((dh ns B n).map .int))),some (.sh (.int (b6 ns B n).length)),e',f,Eq.trans (aE hb) (Eq.trans (aE hs9) ?_)⟩
       rw[c3,decide_eq_true hc3];exact he
     . rw[if_neg hc3];obtain⟨f',he⟩:=x9 ns m B k h (by omega) (some (.sh (.int k))) n hm e f
       refine⟨some (.sh (.int n)),some (.sh (.tup ((dh ns B n).map .int))),some (.sh (.int (b6 ns B n).length)),e,f',Eq.trans (aE hb) (Eq.trans (aE hs9) ?_)⟩
       rw[c3,decide_eq_false hc3];exact he
   . rw[if_neg hc2,decide_eq_false hc2]
     exact⟨_,_,_,_,_,rfl⟩
noncomputable def bld(ns:List Int)(B:Bd)(i:Nat):Nat->Bd
 |0=>B
 |j+1=>bld ns (B.step ns i) (i+1) j
theorem vy(ns:List Int):∀(j i:Nat) (B:Bd),Bok B i->Bok (bld ns B i j) (i+j)
 |0,i,B,h=>h
 | j+1,i,B,h=>by
   have:=vy ns j (i+1) _ (h.step ns);rw[show i+(j+1)=i+1+j by omega];exact this
theorem pq(ns:List Int)(m:Int):∀(j i:Nat) (B:Bd) (a b c d e f:Option Sl),Bok B i->i+j<=90->∃ a' b' c' d' e' f',
  dM 6 eW ((List.range' i j).map fun k:Nat=>.int k) (bE ns m B a b c d e f)=.nx (bE ns m (bld ns B i j) a' b' c' d' e' f')
 |0,i,B,a,b,c,d,e,f,_,_=>⟨_,_,_,_,_,_,rfl⟩
 | j+1,i,B,a,b,c,d,e,f,h,hij=>by
   obtain⟨b',c',d',e',f',hs⟩:=EL ns m B i h (by omega) b c d e f;obtain⟨a2,b2,c2,d2,e2,f2,hl⟩:=pq ns m j (i+1) (B.step ns i) (some (.sh (.int i))) b' c' d' e' f' (h.step ns) (by omega)
   refine⟨a2,b2,c2,d2,e2,f2,?_⟩
   rw[List.range'_succ,List.map_cons,gf];rw[show(bE ns m B a b c d e f).set 6 (some (.sh (.int i)))=bE ns m B (some (.sh (.int i))) b c d e f from rfl,hs,nj];exact hl
noncomputable def cls(B:Bd):Nat->Bd
 |0=>B
 |j+1=>cls B.close j
theorem qQ(B:Bd):B.close.frs.length=B.frs.length - 1:=by
 unfold Bd.close
 cases h:B.frs with
 |nil=>simp[h]
 |cons f fs=>simp[pE]
theorem og(ns:List Int)(m:Int):∀(j:Nat) (B:Bd) (k:Nat) (a b c d e f:Option Sl) (F:Nat),Bok B k->k+j<=100->B.frs.length=j->j<F ->
  gg fg gm F (bE ns m B a b c d e f)=.nx (bE ns m (cls B j) a b c d e f)
 | 0,B,k,a,b,c,d,e,f,F,h,hk,hj,hF=>by
   obtain⟨F,rfl⟩:∃ G,F=G+1:=⟨F - 1,by omega⟩
   have ht:=lR (ρ:=bE ns m B a b c d e f) (i:=4) (fs:=B.frs) rfl
   have:B.frs=[]:=List.length_eq_zero_iff.mp hj
   unfold gg fg;rw[ht,this];rfl
 | j+1,B,k,a,b,c,d,e,f,F,h,hk,hj,hF=>by
   obtain⟨F,rfl⟩:∃ G,F=G+1:=⟨F - 1,by omega⟩
   have ht:=lR (ρ:=bE ns m B a b c d e f) (i:=4) (fs:=B.frs) rfl
   have hne:B.frs≠[]:=by intro z;rw[z]at hj;simp at hj
   have hcl:=pP ns m B k h (by omega) hne a b c d e f;have hb:=h.close [] (by simp);rw[show({ B with row:=B.row++[] }:Bd)=B by cases B;simp]at hb;unfold gg;rw[show fg=cp 4 aB from rfl,ht]
   have he:B.frs.isEmpty=false:=by cases q:B.frs with|nil=>exact absurd q hne|cons _ _=>rfl
   rw[he];show OS.turn _ _=_;rw[show gm=jj 5 (iY bT [.t 2 aB,.t 3 aB,.t 4 aB]) from rfl,hcl,nj];exact og ns m j B.close (k+1) a b c d e f F hb (by omega) (by rw[qQ];omega) (by omega)
noncomputable def bd0:Bd:=⟨[],[],[],.non⟩
noncomputable def ndP(d:Nd):PV:=.tup [.str d.s,.int d.a,.int d.b,.int d.c]
noncomputable def lI(ns:List Int)(m:Nat):Bd:=
 let B:=bld ns bd0 0 m
 let C:=cls B B.frs.length
 { C with row:=C.row++lwh (PG.mix ns 61) }
theorem vf:∀(j:Nat) (B:Bd) (k:Nat),Bok B k->Bok (cls B j) (k+j)
 |0,B,k,h=>h
 | j+1,B,k,h=>by
   have hb:=h.close [] (by simp);rw[show({ B with row:=B.row++[] }:Bd)=B by cases B;simp]at hb;have:=vf j B.close (k+1) hb;rw[show k+(j+1)=k+1+j by omega];exact this
theorem rG:Bok bd0 0:=⟨by simp[bd0],by simp[bd0],trivial,by simp[bd0]⟩
theorem ur:∀ row:List Int,p9 (row.map fun b=>.sh (.int b))=some (row.map .int)
 |[]=>by simp[p9]
 |b ::row=>by simp[p9,pvO,ur row]
theorem tE:∀ ds:List Nd,p9 (ds.map Nd.o)=some (ds.map fun d=>.lst [.str d.s,.int d.a,.int d.b,.int d.c])
 |[]=>by simp[p9]
 |d ::ds=>by simp[p9,pvO,tE ds,Nd.o,ndO]
theorem BD{ρ:ag}{i:Nat}{me:ag->OE}{P:ag->OS}{j:Int}(h1:me ρ=.ok (.sh (.int j)))(hi:-4611686018427387904<=j /\ j<4611686018427387904):jX i me P ρ=dM i P (bX j.toNat) ρ:=by
 simp -implicitDefEqProofs [jX,h1,hi]
theorem xM(ns:List Int)(m:Nat)(hm:m<=20):∃ a b c d e f,jX 6 (ao 1) eW (bE ns m bd0 none none none none none none)=.nx (bE ns m (bld ns bd0 0 m) a b c d e f):=by
 obtain⟨a,b,c,d,e,f,hl⟩:=pq ns m m 0 bd0 none none none none none none rG (by omega)
 refine⟨a,b,c,d,e,f,?_⟩
 have hr:bX (Int.toNat (m:Int))=(List.range' 0 m).map fun k:Nat=>.int k:=by simp[bX,List.range_eq_range']
 have h1:ao 1 (bE ns m bd0 none none none none none none)=.ok (.sh (.int m)):=by simp[bE]
 rw[BD h1 (by omega),hr];exact hl
theorem xp(ns:List Int)(m:Int)(C:Bd)(hC:C.nodes.length<=1000)(hR:C.row.length<=100000)(a b c d e f:Option Sl):
  ∃ ρ,i1 (bE ns m C a b c d e f)=.rt ρ (.sh (.tup [.lst ((C.row++lwh (PG.mix ns 61)).map .int),.lst (C.nodes.map ndP),C.val])):=by
 have e3:cK 2 aB (bK bO (ak (bK ck (ak (ao 0) (ak (mC (.int 61)) aK))) aK)) (bE ns m C a b c d e f)=.nx (bE ns m { C with row:=C.row++lwh (PG.mix ns 61) } a b c d e f):=
  iP (row:=C.row) rfl (.inl (by simp[bE,bL,cm])) (by have:=dI (PG.mix ns 61);omega)
 refine⟨((bE ns m { C with row:=C.row++lwh (PG.mix ns 61) } a b c d e f).set 3 (some (.sh (.lst (C.nodes.map fun d=>.lst [.str d.s,.int d.a,.int d.b,.int d.c]))))).set 2 (some (.sh (.lst ((C.row++lwh (PG.mix ns 61)).map .int)))),?_⟩
 unfold i1;rw[aE e3];unfold lP ij
 have z1:jV 3 (bE ns m { C with row:=C.row++lwh (PG.mix ns 61) } a b c d e f)=(bE ns m { C with row:=C.row++lwh (PG.mix ns 61) } a b c d e f).set 3 (some (.sh (.lst (C.nodes.map fun d=>.lst [.str d.s,.int d.a,.int d.b,.int d.c])))):=by
  simp[jV,bE,iz,pvO,tE]
 have z2:jV 2 ((bE ns m { C with row:=C.row++lwh (PG.mix ns 61) } a b c d e f).set 3 (some (.sh (.lst (C.nodes.map fun d=>.lst [.str d.s,.int d.a,.int d.b,.int d.c])))))=((bE ns m { C with row:=C.row++lwh (PG.mix ns 61) } a b c d e f).set 3 (some (.sh (.lst (C.nodes.map fun d=>.lst [.str d.s,.int d.a,.int d.b,.int d.c]))))).set 2 (some (.sh (.lst ((C.row++lwh (PG.mix ns 61)).map .int)))):=by
  have:=ur (C.row++lwh (PG.mix ns 61));unfold jV bE cq;simp only[List.set_cons_succ,List.set_cons_zero,List.getElem?_cons_succ,List.getElem?_cons_zero,pvO,this,Option.map_some]
 rw[z1,z2]
 have hel:cf i3 [] (C.nodes.map fun d=>.lst [.str d.s,.int d.a,.int d.b,.int d.c])=.ok (C.nodes.map ndP):=
  fZ _ fun d _=>by simp[i3,iT,ndP]
 simp[bE,hel,b4];exact bR (by omega)
theorem A8(ns:List Int)(m:Nat)(hm:m<=20):dU [.lst (ns.map .int),.int m]=.ok (.sh (.tup [.lst ((lI ns m).row.map .int),.lst ((lI ns m).nodes.map ndP),(lI ns m).val])):=by
 have hok:=vy ns m 0 bd0 rG;rw[Nat.zero_add]at hok;obtain⟨a,b,c,d,e,f,e2⟩:=xM ns m hm;have hdep:=hok.dep;have hcok:=vf (bld ns bd0 0 m).frs.length _ m hok;have hcr:=hcok.row;have hcn:=hcok.nodes
 have e1:kB [some (.sh (.lst (ns.map .int))),some (.sh (.int m)),none,none,none,none,none,none,none,none,none,none]=iU (bE ns m bd0 none none none none none none):=by
  unfold kB;rw[aE (ρ':=[some (.sh (.lst (ns.map .int))),some (.sh (.int m)),some (.tr false (cq [])),none,none,none,none,none,none,none,none,none]) (by simp[jZ,mD,cq])];unfold lA;rw[aE (ρ':=[some (.sh (.lst (ns.map .int))),some (.sh (.int m)),some (.tr false (cq [])),some (.tr false (iz [])),none,none,none,none,none,none,none,none]) (by simp[jZ,mD,iz])];unfold lN;rw[aE (ρ':=[some (.sh (.lst (ns.map .int))),some (.sh (.int m)),some (.tr false (cq [])),some (.tr false (iz [])),some (.tr false (gy [])),none,none,none,none,none,none,none]) (by simp[jZ,mD,gy])];unfold lM;rw[aE (ρ':=bE ns m bd0 none none none none none none) (by simp[aF,bE,bd0])]
 obtain⟨ρ,e4⟩:=xp ns m _ (Nat.le_trans hcn (by omega)) (Nat.le_trans hcr (by omega)) a b c d e f
 have hw:∀ F,(bld ns bd0 0 m).frs.length<F->gg fg gm F (bE ns m (bld ns bd0 0 m) a b c d e f)=.nx (bE ns m (cls (bld ns bd0 0 m) (bld ns bd0 0 m).frs.length) a b c d e f):=fun F hF=>og ns m _ (bld ns bd0 0 m) m a b c d e f F hok (by omega) rfl hF
 unfold dU fnP;rw[if_pos (show List.length [PV.lst (ns.map .int),.int m]=2 from rfl),show eT 12 [PV.lst (ns.map .int),.int m]=[some (.sh (.lst (ns.map .int))),some (.sh (.int m)),none,none,none,none,none,none,none,none,none,none] from rfl,e1];unfold iU;rw[aE e2]
 have hF:(bld ns bd0 0 m).frs.length<fuel:=by unfold fuel;omega
 unfold lE;rw[aE (hw fuel hF),e4];rfl
noncomputable def Nd.t(d:Nd):Tr:=⟨d.s,d.a,d.b⟩
noncomputable def kis(fs:List Fr):List (Bool×Nat):=fs.map fun f=>(f.k,f.i)
noncomputable def phs:List Fr->Ph
 |f ::_=>if f.items.isEmpty then .emp else .aft
 |[]=>.aft
noncomputable def PnB(B:Bd)(n:Nat):Prop:=Pn B.row (B.nodes.map Nd.t) (kis B.frs) (phs B.frs) n
theorem uY(f:Nd->Nd)(hf:∀ d,(f d).t=d.t):∀(l:List Nd) (i:Nat),(l.modify i f).map Nd.t=l.map Nd.t
 |[],i=>by cases i<;>rfl
 |d ::l,0=>by simp[hf]
 |d ::l,i+1=>by simp[uY f hf l i]
theorem zf(f:Nd->Nd)(g:Tr->Tr)(hf:∀ d,(f d).t=g d.t):∀(l:List Nd) (i:Nat),(l.modify i f).map Nd.t=(l.map Nd.t).modify i g
 |[],i=>by cases i<;>rfl
 |d ::l,0=>by simp[hf]
 |d ::l,i+1=>by simp[zf f g hf l i]
theorem wI(nm:List Int)(v:PV)(fs:List Fr):kis (gY nm v fs)=kis fs /\ phs (gY nm v fs)=.aft:=by
 cases fs with
 |nil=>exact⟨rfl,rfl⟩
 |cons g gs=>exact⟨rfl,by simp[gY,phs]⟩
theorem Fv{ns:List Int}{B:Bd}{n:Int}{c:Nat}(h:PnB B c)(hne:B.frs≠[]):∃ p c',Pn (b6 ns B n) ((bp ns B n).map Nd.t) (kis B.frs) p c' /\ Vl p (kis B.frs) /\ c'<=c+3:=by
 unfold PnB at h;unfold b6 bp gc o3
 cases e:B.frs with
 |nil=>exact absurd e hne
 | cons f fs=>
   rw[e]at h
   have nm:∀(row:List Int) (p:Ph) (c:Nat),f.k=false->Pn row (B.nodes.map Nd.t) (kis (f ::fs)) p c->(p=.nam \/ p=.emp)->Pn (row++PG.txt (iL ns n)++(lwh (n/19)++58 ::lwh (n/23))) ((B.nodes++[(⟨"name",row.length,(row++PG.txt (iL ns n)).length,0⟩:Nd)]).map Nd.t) (kis (f ::fs)) .val (c+1+1):=by
    intro row p c hk hp hpp
    have h0:kis (f ::fs)=(false,f.i) ::kis fs:=by simp[kis,hk]
    rw[h0]at hp ⊢
    have:=((hp.name hpp (yO _ (n/17) 0 (qm ns (n/13)).1)).jS (iF (n/19))).colon.jS (iF (n/23))
    simpa [iL,Nd.t]using this
   simp only[full,inF]
   by_cases hi:f.items.isEmpty=true
   . have hp:phs (f ::fs)=.emp:=by simp[phs,hi]
     rw[hp]at h;have h1:=h.jS (iF (n/3));simp only[hi,Bool.not_true,Bool.false_eq_true,if_false,List.append_nil]
     cases hk:f.k with
     | true=>
       simp only[Bool.not_true,Bool.false_eq_true,if_false]
       exact⟨_,c,h1,.inr ⟨rfl,f.i,kis fs,by simp[kis,hk]⟩,by omega⟩
     | false=>
       simp only[Bool.not_false,if_true]
       exact⟨_,_,nm _ _ _ hk h1 (.inr rfl),.inl rfl,by omega⟩
   . have hi':f.items.isEmpty=false:=by simpa using hi
     have hp:phs (f ::fs)=.aft:=by simp[phs,hi']
     rw[hp]at h;have h1:=h.jS (iF (n/3));simp only[hi',Bool.not_false,if_true]
     have h0:kis (f ::fs)=(f.k,f.i) ::kis fs:=rfl
     rw[h0]at h1;have h2:=h1.comma.jS (iF (n/11));rw[List.append_assoc,List.append_assoc,List.singleton_append,<- List.append_assoc,<- h0]at h2
     cases hk:f.k with
     | true=>
       rw[hk]at h2;simp only[Bool.not_true,Bool.false_eq_true,if_false]
       exact⟨_,_,h2,.inl rfl,by omega⟩
     | false=>
       rw[hk]at h2;simp only[Bool.not_false,if_true]
       exact⟨_,_,nm _ _ _ hk h2 (.inl rfl),.inl rfl,by omega⟩
theorem yj{ns:List Int}{n:Int}:Pn (b6 ns bd0 n) ((bp ns bd0 n).map Nd.t) (kis bd0.frs) .val 0:=by
 have:=Pn.start.jS (iF (n/3))
 simpa [b6,bp,gc,bd0,inF,full,kis]using this
theorem Ae{ns:List Int}{B:Bd}{n:Int}{p:Ph}{c:Nat}(h:Pn (b6 ns B n) ((bp ns B n).map Nd.t) (kis B.frs) p c)(hv:Vl p (kis B.frs))(hd:B.frs.length<=60):PnB (B.opn ns n) (c+1):=by
 have:=h.opn (k:=decide (n/5%2=0)) hv (by simpa [kis]using hd);rw[List.length_map]at this;unfold PnB Bd.opn;rw[List.map_append];simp only[decide_eq_true_eq]at this;exact this
theorem vO{ns:List Int}{B:Bd}{n:Int}{p:Ph}{c:Nat}(h:Pn (b6 ns B n) ((bp ns B n).map Nd.t) (kis B.frs) p c)(hv:Vl p (kis B.frs)):PnB (B.leaf ns n) (c+1):=by
 have:=h.leaf hv (Bf ns n);have hk:=wI (dh ns B n) (lfV ns n) B.frs;unfold PnB Bd.leaf
 simp only
 rw[hk.1,hk.2]
 have e:∀(ds:List Nd) (c:Int),(if inF B.frs=true then ds.modify (ds.length - 2) (fun d=>{ d with c:=ds.length })else ds).map Nd.t=ds.map Nd.t:=fun ds c=>by
  split
  . exact uY (fun d=>{ d with c:=ds.length }) (fun d=>rfl) _ _
  . rfl
 rw[e _ 0,List.map_append]
 have hn:lfK (gF ns n)=lfN (gF ns n):=by
  cases gF ns n with
  |wd w=>cases w<;>rfl
  |tx l=>rfl
  |nm m=>rfl
 rw[hn];exact this
theorem PnB.close{B:Bd}{c:Nat}(h:PnB B c)(hne:B.frs≠[]):PnB B.close (c+1):=by
 unfold PnB at h;unfold PnB Bd.close
 cases e:B.frs with
 |nil=>exact absurd e hne
 | cons f fs=>
   rw[e]at h;have hk:=wI f.nm (.tup [kS f.k,.tup f.items]) fs
   simp only
   rw[hk.1,hk.2]
   have hp:phs (f ::fs)=.emp \/ phs (f ::fs)=.aft:=by
    cases hi:f.items.isEmpty with
    |true=>exact .inl (by simp only[phs,hi,if_true])
    |false=>exact .inr (by simp only[phs,hi,Bool.false_eq_true,if_false])
   have:=Pn.close (k:=f.k) (i:=f.i) (K:=kis fs) h hp
   have e2:∀(ds:List Nd) (i:Nat) (c:Int),(if inF fs=true then ds.modify i (fun d=>{ d with c:=c })else ds).map Nd.t=ds.map Nd.t:=fun ds i c=>by
    split
    . exact uY (fun d=>{ d with c:=c }) (fun d=>rfl) _ _
    . rfl
   rw[e2,zf (fun d=>{ d with b:=B.row.length+1,c:=B.nodes.length }) (fun d=>{ d with b:=B.row.length+1 }) (fun d=>rfl)];exact this
theorem PnB.step{ns:List Int}{B:Bd}{k c:Nat}(h:PnB B c)(hd:B.frs.length<=60)(h0:k≠0):∃ c',PnB (B.step ns k) c' /\ c'<=c+4:=by
 unfold Bd.step;split
 . rename_i hc
   have hne:B.frs≠[]:=by intro z;rw[z]at hc;simp at hc
   exact⟨_,PnB.close (B:={ B with row:=B.row++lwh (PG.mix ns k/3) }) (Pn.jS h (iF _)) hne,by omega⟩
 . split
   . rename_i hc
     have hne:B.frs≠[]:=by
      intro z;rw[z]at hc;simp at hc;exact h0 hc
     obtain⟨p,c1,h1,h2,h3⟩:=Fv (ns:=ns) (n:=PG.mix ns k) h hne;split
     . exact⟨_,Ae h1 h2 hd,by omega⟩
     . exact⟨_,vO h1 h2,by omega⟩
   . exact⟨c,h,by omega⟩
theorem zC(ns:List Int):PnB (bd0.step ns 0) 1:=by
 unfold Bd.step;rw[if_neg (by simp[bd0]),if_pos (.inr rfl)];split
 . exact Ae yj (.inl rfl) (by simp[bd0])
 . exact vO yj (.inl rfl)
theorem y2(ns:List Int):∀(j i:Nat) (B:Bd) (c:Nat),PnB B c->Bok B i->i≠0->i+j<=50->∃ c',PnB (bld ns B i j) c' /\ c'<=c+4*j
 |0,_,_,c,h,_,_,_=>⟨c,h,by omega⟩
 | j+1,i,B,c,h,hk,h0,hj=>by
   obtain⟨c1,h1,h2⟩:=h.step (ns:=ns) (k:=i) (by have:=hk.dep;omega) h0;obtain⟨c2,g1,g2⟩:=y2 ns j (i+1) _ c1 h1 (hk.step ns) (by omega) (by omega)
   exact⟨c2,g1,by omega⟩
theorem yZ:∀(j:Nat) (B:Bd) (c:Nat),PnB B c->B.frs.length=j->PnB (cls B j) (c+j) /\ (cls B j).frs=[]
 |0,B,c,h,hj=>⟨h,List.length_eq_zero_iff.mp hj⟩
 | j+1,B,c,h,hj=>by
   have hne:B.frs≠[]:=by intro z;rw[z]at hj;simp at hj
   have:=yZ j B.close (c+1) (h.close hne) (by rw[qQ];omega);rw[show c+(j+1)=c+1+j by omega];exact this
theorem yV(ns:List Int)(m:Nat)(h1:1<=m)(hm:m<=20):∃ c,Pn (lI ns m).row ((lI ns m).nodes.map Nd.t) [] .aft c /\ c<=5*m /\ (lI ns m).row.length<=800*m+3 /\ (lI ns m).nodes.length<=4*m:=by
 obtain⟨m,rfl⟩:∃ j,m=j+1:=⟨m - 1,by omega⟩
 have hok:=vy ns (m+1) 0 bd0 rG;obtain⟨c1,h,hc1⟩:=y2 ns m 1 (bd0.step ns 0) 1 (zC ns) (rG.step ns) (by omega) (by omega);have hc:=yZ (bld ns bd0 0 (m+1)).frs.length (bld ns bd0 0 (m+1)) c1 h rfl;have hb:=vf (bld ns bd0 0 (m+1)).frs.length _ _ hok;have hr:=hb.row;have hn:=hb.nodes;have hd:=hok.dep;have hl:=dI (PG.mix ns 61);have hw:=Pn.jS hc.1 (iF (PG.mix ns 61));rw[hc.2]at hw
 refine⟨_,hw,by omega,?_,?_⟩
 . show(_++lwh (PG.mix ns 61):List Int).length<=_
   rw[List.length_append];omega
 . show(cls _ _).nodes.length<=_
   omega
noncomputable def dw(s:Ms)(b:Int):String:=if s.ins=true then "inside" else if wht b=true then "white" else if b=34 then "quote" else if mrk b=true then "mark" else "run"
noncomputable def oM:Ms->List Int->List String
 |_,[]=>[]
 |s,b ::r=>dw s b ::oM (mst s b) r
theorem yf:∀(l:List Int) (s:Ms),(oM s l).length=l.length
 |[],_=>rfl
 |b ::l,s=>by simp[oM,yf l]
theorem ft(b:Int):fA [.int b]=.ok (.sh (.bl (wht b))):=by
 simp -implicitDefEqProofs [pD,fA,gIn,nM,dO,je,wht];rfl
theorem wW(b:Int)(s:Ms)(h:s.ins=false):bY [.int b]=.ok (.sh (.str (dw s b))):=by
 have l6:(6:Nat)<=lim:=bR (by omega)
 unfold dw;rw[h]
 by_cases h1:wht b=true
 . simp -implicitDefEqProofs [eJ,eG,dc,dX,bY,ft,h1,fN]
 . have h1':wht b=false:=by simpa using h1
   by_cases h2:b=34
   . subst h2;simp -implicitDefEqProofs [eJ,eG,dc,dX,bY,ft,h1',fN]
   . have hm:aA (mOp gIn (ao 0) (dG (ak (mC (.int 44)) (ak (mC (.int 58)) (ak (mC (.int 91)) (ak (mC (.int 93)) (ak (mC (.int 123)) (ak (mC (.int 125)) aK)))))))) [some (.sh (.int b))] = .ok (mrk b):=by
      simp -implicitDefEqProofs [aA,gIn,nM,dO,je,l6,mrk]
      grind
     by_cases h3:mrk b=true
     . rw[h3]at hm;simp only[Bool.false_eq_true,if_false,h1',h2,h3,if_true];unfold bY fnP;rw[if_pos (show List.length [PV.int b]=1 from rfl),show eT 1 [PV.int b]=[some (.sh (.int b))] from rfl];unfold dX;rw[sk (by simp -implicitDefEqProofs [bw,ft,h1',fN])];unfold dc;rw[sk (by simp[aA,h2])];exact ky (ρ:=[some (.sh (.int b))]) (st hm (by simp))
     . have h3':mrk b=false:=by simpa using h3
       rw[h3']at hm;simp only[Bool.false_eq_true,if_false,h1',h2,h3'];unfold bY fnP;rw[if_pos (show List.length [PV.int b]=1 from rfl),show eT 1 [PV.int b]=[some (.sh (.int b))] from rfl];unfold dX;rw[sk (by simp -implicitDefEqProofs [bw,ft,h1',fN])];unfold dc;rw[sk (by simp[aA,h2])];unfold eG;rw[sk hm];exact ky (ρ:=[some (.sh (.int b))]) (by simp[eJ])
theorem u6(A:Option Sl)(ys:List PV)(s:Ms)(b:Int)(hl:ys.length<lim):eL [A,some (.ow ys),some (.sh (.bl s.ins)),some (.sh (.bl s.tk)),some (.sh (.int b))]=.nx [A,some (.ow (ys++[.str (dw s b)])),some (.sh (.bl (mst s b).ins)),some (.sh (.bl (mst s b).tk)),some (.sh (.int b))]:=by
 obtain⟨ins,tk,rn⟩:=s
 cases ins with
 | false=>
   have e:=wW b ⟨false,tk,rn⟩ rfl
   have h1:(mst ⟨false,tk,rn⟩ b).ins=decide (b=34):=by
    by_cases h34:b=34
    . subst h34;rfl
    . unfold mst;simp only[Bool.false_eq_true,if_false,h34,decide_false];split
      . rfl
      . split<;>rfl
   have h2:(mst ⟨false,tk,rn⟩ b).tk=tk:=by
    unfold mst;simp only[Bool.false_eq_true,if_false];split
    . rfl
    . split
      . rfl
      . split<;>rfl
   rw[h1,h2];simp -implicitDefEqProofs [eL,bw,fN,bg,e,hl,fq,aF]
 | true=>
   have h1:(mst ⟨true,tk,rn⟩ b).ins=(tk||decide (b≠34)):=rfl
   have h2:(mst ⟨true,tk,rn⟩ b).tk=(decide (b=92) && !tk):=rfl
   rw[h1,h2];cases tk
   . by_cases h34:b=34
     . subst h34;simp -implicitDefEqProofs [eL,bw,fN,bg,hl,fq,aF,tD,hU,m8,dw]
     . by_cases h92:b=92
       . subst h92;simp -implicitDefEqProofs [eL,bw,fN,bg,hl,fq,aF,tD,hU,m8,dw]
       . simp -implicitDefEqProofs [eL,bw,fN,bg,hl,fq,aF,tD,hU,m8,dw,h34,h92]
   . by_cases h92:b=92
     . subst h92;simp -implicitDefEqProofs [eL,bw,fN,bg,hl,fq,aF,tD,hU,m8,dw]
     . simp -implicitDefEqProofs [eL,bw,fN,bg,hl,fq,aF,tD,hU,m8,dw,h92]
theorem pN(A:Option Sl):∀(l:List Int) (ys:List PV) (s:Ms) (o:Option Sl),ys.length+l.length<=1000000->∃ a b c,dM 4 eL (l.map .int) [A,some (.ow ys),some (.sh (.bl s.ins)),some (.sh (.bl s.tk)),o]=.nx [A,some (.ow (ys++(oM s l).map fun x:String=>PV.str x)),a,b,c]
 |[],ys,s,o,_=>⟨some (.sh (.bl s.ins)),some (.sh (.bl s.tk)),o,by simp[oM]⟩
 | b ::l,ys,s,o,hl=>by
   simp only[List.length_cons]at hl;obtain⟨a1,b1,c1,ih⟩:=pN A l (ys++[.str (dw s b)]) (mst s b) (some (.sh (.int b))) (by simp;omega)
   refine⟨a1,b1,c1,?_⟩
   rw[List.map_cons,ng (u6 A ys s b (bR (n:=ys.length+1) (by omega))),ih];simp[oM]
theorem o5(row:List Int)(hl:row.length<=100000):iN [.lst (row.map .int)]=.ok (.fr ((oM PG.m0 row).map fun x:String=>PV.str x)):=by
 obtain⟨a,b,c,h⟩:=pN (some (.sh (.lst (row.map .int)))) row [] PG.m0 none (by simp;omega);unfold iN fnP;rw[if_pos (show List.length [PV.lst (row.map .int)]=1 from rfl),show eT 5 [PV.lst (row.map .int)]=[some (.sh (.lst (row.map .int))),none,none,none,none] from rfl];unfold vP;rw[aE (ρ':=[some (.sh (.lst (row.map .int))),some (.ow []),none,none,none]) (by simp[aF])];unfold rj;rw[aE (ρ':=[some (.sh (.lst (row.map .int))),some (.ow []),some (.sh (.bl false)),none,none]) (by simp[aF])];unfold qX;rw[aE (ρ':=[some (.sh (.lst (row.map .int))),some (.ow []),some (.sh (.bl false)),some (.sh (.bl false)),none]) (by simp[aF])];unfold qL
 rw[aE (ρ':=[some (.sh (.lst (row.map .int))),some (.ow ((oM PG.m0 row).map fun x:String=>PV.str x)),a,b,c]) (by
  unfold jY;simp only[sQ,List.getElem?_cons_zero,cN,zM]
  exact h)]
 simp[qJ,cY,fin]
noncomputable def oS(s:Ms)(a:PV):Prop:=a=(if s.rn=true then .str "run" else a) /\ (s.rn=false->a=.non \/ ∃ x:String,a=.str x /\ x ≠ "run")
theorem B1(s:Ms)(b:Int):oS (mst s b) (.str (dw s b)):=by
 obtain⟨ins,tk,rn⟩:=s
 have nr:∀(x:String) (m:Ms),m.rn=false->x ≠ "run" -> oS m (.str x):=fun x m hm hx=>⟨by rw[hm];rfl,fun _=>.inr ⟨x,rfl,hx⟩⟩
 unfold dw mst
 cases ins with
 |true=>simp only[if_true];exact nr _ _ rfl (by decide)
 | false=>
   simp only[Bool.false_eq_true,if_false]
   by_cases h1:wht b=true
   . simp only[h1,if_true];exact nr _ _ rfl (by decide)
   . by_cases h2:b=34
     . subst h2;exact nr _ _ rfl (by decide)
     . by_cases h3:mrk b=true
       . simp only[h1,h2,h3,if_true,if_false];exact nr _ _ rfl (by decide)
       . simp only[h1,h2,h3,if_false];exact⟨rfl,fun z=>by cases z⟩
theorem u5(A:Option Sl)(ys:List PV)(s:Ms)(a:PV)(k:Nat)(b:Int)(ha:oS s a)(hl:ys.length<lim):lp [A,some (.ow ys),some (.sh a),some (.sh (.int k)),some (.sh (.str (dw s b)))]=.nx [A,some (.ow (ys++if PG.mem s b=true then[.int k]else[])),some (.sh (.str (dw s b))),some (.sh (.int k)),some (.sh (.str (dw s b)))]:=by
 have l2:(2:Nat)<=lim:=bR (by omega)
 have hq:aA (mOp gIn (ao 4) (dG (ak (mC (.str "mark")) (ak (mC (.str "quote")) aK)))) [A,some (.ow ys),some (.sh a),some (.sh (.int k)),some (.sh (.str (dw s b)))]=.ok (decide (dw s b = "mark")||decide (dw s b = "quote")):=by
  have e1:decide ("mark" = dw s b)=decide (dw s b = "mark"):=decide_eq_decide.mpr eq_comm
  have e2:decide ("quote" = dw s b)=decide (dw s b = "quote"):=decide_eq_decide.mpr eq_comm
  generalize dw s b=z at *;simp -implicitDefEqProofs [aA,gIn,nM,dO,je,bQ,l2,e1,e2]
 have hr:aA (mOp gEq (ao 4) (mC (.str "run"))) [A,some (.ow ys),some (.sh a),some (.sh (.int k)),some (.sh (.str (dw s b)))]=.ok (decide (dw s b = "run")):=by
  generalize dw s b=z at *;simp -implicitDefEqProofs [aA,gEq,eqS,bQ]
 have hn:aA (mOp gNe (ao 2) (mC (.str "run"))) [A,some (.ow ys),some (.sh a),some (.sh (.int k)),some (.sh (.str (dw s b)))]=.ok (!s.rn):=by
  cases hrn:s.rn with
  | true=>
    have:=ha.1;rw[hrn]at this;rw[this];simp -implicitDefEqProofs [aA,gNe,eqS,bQ]
  | false=>
    rcases ha.2 hrn with z|⟨x,z,hx⟩
    . rw[z];simp -implicitDefEqProofs [aA,gNe,eqS]
    . rw[z];simp -implicitDefEqProofs [aA,gNe,eqS,bQ,hx]
 have hmem:PG.mem s b=(decide (dw s b = "mark")||decide (dw s b = "quote")||(decide (dw s b = "run") && !s.rn)):=by
  unfold PG.mem dw
  by_cases h0:s.ins=true
  . simp[h0]
  . by_cases h1:wht b=true
    . simp[h0,h1]
    . by_cases h2:b=34
      . simp[h0,h1,h2];simp[wht]
      . by_cases h3:mrk b=true<;>simp[h0,h1,h2,h3]
 have hc:nO (aA (mOp gIn (ao 4) (dG (ak (mC (.str "mark")) (ak (mC (.str "quote")) aK))))) (cC (aA (mOp gEq (ao 4) (mC (.str "run")))) (aA (mOp gNe (ao 2) (mC (.str "run"))))) [A,some (.ow ys),some (.sh a),some (.sh (.int k)),some (.sh (.str (dw s b)))]=.ok (PG.mem s b):=by
  rw[hmem];unfold nO cC;rw[hq,hr,hn]
  cases(decide (dw s b = "mark")||decide (dw s b = "quote"))<;>cases decide (dw s b = "run")<;>simp
 unfold lp
 cases hm:PG.mem s b with
 | true=>
   rw[hm]at hc;rw[aE (ρ':=[A,some (.ow (ys++[.int k])),some (.sh a),some (.sh (.int k)),some (.sh (.str (dw s b)))]) ((oD hc).trans (by simp[bg,hl,fq]))];simp[aF]
 | false=>
   rw[hm]at hc;rw[aE ((qt hc).trans (mJ _))];simp[aF]
theorem pf(A:Option Sl):∀(l:List Int) (ys:List PV) (s:Ms) (a:PV) (k:Nat) (o o2:Option Sl),oS s a->ys.length+l.length<=1000000->∃ a' b c,i9 3 4 lp (oA k ((oM s l).map fun x:String=>PV.str x)) [A,some (.ow ys),some (.sh a),o,o2]=.nx [A,some (.ow (ys++(mkl s k l).map .int)),a',b,c]
 |[],ys,s,a,k,o,o2,_,_=>⟨some (.sh a),o,o2,by simp[oM,oA,i9,mkl]⟩
 | b ::l,ys,s,a,k,o,o2,ha,hl=>by
   simp only[List.length_cons]at hl;obtain⟨a1,b1,c1,ih⟩:=pf A l (ys++if PG.mem s b=true then[.int k]else[]) (mst s b) (.str (dw s b)) (k+1) (some (.sh (.int k))) (some (.sh (.str (dw s b)))) (B1 s b) (by split<;>simp<;>omega)
   refine⟨a1,b1,c1,?_⟩
   have hs:=u5 A ys s a k b ha (bR (n:=ys.length+1) (by omega));simp only[oM,List.map_cons,oA,i9,List.set_cons_succ,List.set_cons_zero,hs];show i9 _ _ _ _ _=_;rw[ih,mkl]
   split<;>simp
theorem kU(row:List Int)(hl:row.length<=100000):iB [.lst (row.map .int)]=.ok (.fr ((mkl PG.m0 0 row).map .int)):=by
 have hs:=o5 row hl;obtain⟨a,b,c,h⟩:=pf (some (.sh (.lst (row.map .int)))) row [] PG.m0 .non 0 none none ⟨rfl,fun _=>.inl rfl⟩ (by simp;omega);unfold iB fnP;rw[if_pos (show List.length [PV.lst (row.map .int)]=1 from rfl),show eT 5 [PV.lst (row.map .int)]=[some (.sh (.lst (row.map .int))),none,none,none,none] from rfl];unfold vT;rw[aE (ρ':=[some (.sh (.lst (row.map .int))),some (.ow []),none,none,none]) (by simp[aF])];unfold qD;rw[aE (ρ':=[some (.sh (.lst (row.map .int))),some (.ow []),some (.sh .non),none,none]) (by simp[aF])];unfold qP
 rw[aE (ρ':=[some (.sh (.lst (row.map .int))),some (.ow ((mkl PG.m0 0 row).map .int)),a,b,c]) (by
  unfold wU
  have e:bK iN (ak (ao 0) aK) [some (.sh (.lst (row.map .int))),some (.ow []),some (.sh .non),none,none]=.ok (.fr ((oM PG.m0 row).map fun x:String=>PV.str x)):=by simp[hs]
  rw[e];simp only[cN,ux]
  exact h)]
 simp[qy,cY,fin]
theorem tM(row:List Int)(ys:List PV)(s:Ms)(k:Nat)(b:Int)(o:Option Sl)(hb:row[k]?=some b)(hr:s.ins=true->s.rn=false)(ht:s.ins=false->s.tk=false)(hl:ys.length<lim):
  fK [some (.sh (.lst (row.map .int))),some (.ow ys),some (.sh (.bl s.ins)),some (.sh (.bl s.tk)),some (.sh (.bl s.rn)),some (.sh (.int k)),o]=.nx [some (.sh (.lst (row.map .int))),some (.ow (ys++if PG.mem s b=true then[.int k]else[])),some (.sh (.bl (mst s b).ins)),some (.sh (.bl (mst s b).tk)),some (.sh (.bl (mst s b).rn)),some (.sh (.int k)),some (.sh (.int b))]:=by
 have hat:atP (row.map PV.int) (k:Int)=some (.int b):=by rw[ll,List.getElem?_map,hb];rfl
 have l7:(7:Nat)<=lim:=bR (by omega)
 have l4:(4:Nat)<=lim:=bR (by omega)
 unfold fK;rw[aE (ρ':=[some (.sh (.lst (row.map .int))),some (.ow ys),some (.sh (.bl s.ins)),some (.sh (.bl s.tk)),some (.sh (.bl s.rn)),some (.sh (.int k)),some (.sh (.int b))]) (by simp -implicitDefEqProofs [aF,i7,hat])];obtain⟨ins,tk,rn⟩:=s
 cases ins with
 | true=>
   have hrn:rn=false:=hr rfl
   subst hrn;rw[oD (by simp[bw,fN])]
   cases tk with
   | true=>
     rw[oD (by simp[bw,fN])];simp[aF,mst,PG.mem]
   | false=>
     rw[qt (by simp[bw,fN])]
     by_cases h92:b=92
     . subst h92;rw[oD (by simp[aA])];simp[aF,mst,PG.mem]
     . rw[qt (by simp[aA,h92])]
       by_cases h34:b=34
       . subst h34;rw[oD (by simp[aA])];simp[aF,mst,PG.mem]
       . rw[qt (by simp[aA,h34]),mJ];simp[mst,PG.mem,h92,h34]
 | false=>
   have htk:tk=false:=ht rfl
   subst htk;rw[qt (by simp[bw,fN])]
   have hq:aA (mOp gIn (ao 6) (dG (ak (mC (.int 34)) (ak (mC (.int 123)) (ak (mC (.int 125)) (ak (mC (.int 91)) (ak (mC (.int 93)) (ak (mC (.int 58)) (ak (mC (.int 44)) aK))))))))) [some (.sh (.lst (row.map .int))),some (.ow ys),some (.sh (.bl false)),some (.sh (.bl false)),some (.sh (.bl rn)),some (.sh (.int k)),some (.sh (.int b))]=.ok (decide (b=34)||mrk b):=by
    simp -implicitDefEqProofs [aA,gIn,nM,dO,je,l7,mrk]
    grind
   have hw:aA (mOp gIn (ao 6) (dG (ak (mC (.int 32)) (ak (mC (.int 9)) (ak (mC (.int 10)) (ak (mC (.int 13)) aK)))))) [some (.sh (.lst (row.map .int))),some (.ow ys),some (.sh (.bl false)),some (.sh (.bl false)),some (.sh (.bl rn)),some (.sh (.int k)),some (.sh (.int b))]=.ok (wht b):=by
    simp -implicitDefEqProofs [aA,gIn,nM,dO,je,l4,wht]
    grind
   have hx:wht b=true->b≠34 /\ mrk b=false:=fun h=>by
    unfold wht at h;unfold mrk;simp only[Bool.or_eq_true,decide_eq_true_eq]at h;simp only[Bool.or_eq_false_iff,decide_eq_false_iff_not];omega
   by_cases h34:b=34
   . subst h34;rw[oD (by rw[hq];rfl)];simp -implicitDefEqProofs [bg,hl,fq,aF,mst,PG.mem,wht]
   . by_cases hm:mrk b=true
     . have hnw:wht b = false:=by
        cases z:wht b with
        |false=>rfl
        |true=>rw[(hx z).2]at hm;cases hm
       rw[oD (by rw[hq,hm];simp)];simp -implicitDefEqProofs [bg,hl,fq,aF,mst,PG.mem,hnw,h34,hm]
     . have hm':mrk b=false:=by simpa using hm
       rw[qt (by rw[hq,hm'];simp[h34])]
       cases hwb:wht b with
       | true=>
         rw[oD (by rw[hw,hwb])];simp -implicitDefEqProofs [aF,mst,PG.mem,hwb]
       | false=>
         rw[qt (by rw[hw,hwb])]
         cases rn with
         | true=>
           rw[sk (by simp[bw,fN])];simp -implicitDefEqProofs [aF,mst,PG.mem,hwb,h34,hm']
         | false=>
           rw[aE ((oD (by simp[bw,fN])).trans (show bg 1 (ao 5) _=.nx [some (.sh (.lst (row.map .int))),some (.ow (ys++[.int k])),some (.sh (.bl false)),some (.sh (.bl false)),some (.sh (.bl false)),some (.sh (.int k)),some (.sh (.int b))] by simp[bg,hl,fq]))];simp -implicitDefEqProofs [aF,mst,PG.mem,hwb,h34,hm']
theorem FC(s:Ms)(b:Int)(ht:s.ins=false->s.tk=false):((mst s b).ins=true->(mst s b).rn=false) /\ ((mst s b).ins=false->(mst s b).tk=false):=by
 obtain⟨ins,tk,rn⟩:=s;unfold mst
 cases ins with
 | true=>
   refine⟨fun _=>rfl,fun h=>?_⟩
   simp only[if_true]at h ⊢
   cases tk with
   |true=>simp at h
   | false=>
     simp only[Bool.false_or,decide_eq_false_iff_not,ne_eq,Decidable.not_not]at h;subst h;rfl
 | false=>
   have:=ht rfl;simp only at this;subst this;simp only[Bool.false_eq_true,if_false];split
   . exact⟨fun z=>(by cases z),fun _=>rfl⟩
   . split
     . exact⟨fun _=>rfl,fun z=>(by cases z)⟩
     . split
       . exact⟨fun z=>(by cases z),fun _=>rfl⟩
       . exact⟨fun z=>(by cases z),fun _=>rfl⟩
theorem ot(row:List Int):∀(l:List Int) (pre:List Int) (ys:List PV) (s:Ms) (o o2:Option Sl),row=pre++l->(s.ins=true->s.rn=false)->(s.ins=false->s.tk=false)->ys.length+l.length<=1000000 ->
  ∃ a b c d e,dM 5 fK ((List.range' pre.length l.length).map fun k:Nat=>PV.int k) [some (.sh (.lst (row.map .int))),some (.ow ys),some (.sh (.bl s.ins)),some (.sh (.bl s.tk)),some (.sh (.bl s.rn)),o,o2]=.nx [some (.sh (.lst (row.map .int))),some (.ow (ys++(mkl s pre.length l).map .int)),a,b,c,d,e]
 |[],pre,ys,s,o,o2,_,_,_,_=>⟨some (.sh (.bl s.ins)),some (.sh (.bl s.tk)),some (.sh (.bl s.rn)),o,o2,by simp[mkl]⟩
 | b ::l,pre,ys,s,o,o2,hrow,h1,h2,hl=>by
   simp only[List.length_cons]at hl;have hk:=FC s b h2;obtain⟨a1,b1,c1,d1,e1,ih⟩:=ot row l (pre++[b]) (ys++if PG.mem s b=true then[.int pre.length]else[]) (mst s b) (some (.sh (.int pre.length))) (some (.sh (.int b))) (by rw[hrow];simp) hk.1 hk.2 (by split<;>simp<;>omega)
   refine⟨a1,b1,c1,d1,e1,?_⟩
   rw[List.length_cons,List.range'_succ,List.map_cons,ng (tM row ys s pre.length b o2 (by rw[hrow];simp) h1 h2 (bR (n:=ys.length+1) (by omega)))]
   have e:(pre++[b]).length=pre.length+1:=by simp
   rw[e]at ih;rw[ih,mkl]
   split<;>simp
theorem zj(row:List Int)(hl:row.length<=100000):du [.lst (row.map .int)]=.ok (.fr ((mkl PG.m0 0 row).map .int)):=by
 obtain⟨a,b,c,d,e,h⟩:=ot row row [] [] PG.m0 none none rfl (fun z=>by cases z) (fun _=>rfl) (by simp;omega);unfold du fnP;rw[if_pos (show List.length [PV.lst (row.map .int)]=1 from rfl),show eT 7 [PV.lst (row.map .int)]=[some (.sh (.lst (row.map .int))),none,none,none,none,none,none] from rfl];unfold nz;rw[aE (ρ':=[some (.sh (.lst (row.map .int))),some (.ow []),none,none,none,none,none]) (by simp[aF])];unfold kA;rw[aE (ρ':=[some (.sh (.lst (row.map .int))),some (.ow []),some (.sh (.bl false)),none,none,none,none]) (by simp[aF])];unfold kT;rw[aE (ρ':=[some (.sh (.lst (row.map .int))),some (.ow []),some (.sh (.bl false)),some (.sh (.bl false)),none,none,none]) (by simp[aF])];unfold ke;rw[aE (ρ':=[some (.sh (.lst (row.map .int))),some (.ow []),some (.sh (.bl false)),some (.sh (.bl false)),some (.sh (.bl false)),none,none]) (by simp[aF])];unfold j8
 rw[aE (ρ':=[some (.sh (.lst (row.map .int))),some (.ow ((mkl PG.m0 0 row).map .int)),a,b,c,d,e]) (by
  have r1:-4611686018427387904<=(row.length:Int):=by omega
  have r2:(row.length:Int)<4611686018427387904:=by omega
  unfold jX
  have e0:bX row.length=(List.range' ([]:List Int).length row.length).map fun k:Nat=>PV.int k:=by
   unfold bX;rw[List.range_eq_range'];rfl
  simp -implicitDefEqProofs only[CN,sQ,List.getElem?_cons_zero,n8,RV.pv,zm,sI,cN,List.length_map]
  simp -implicitDefEqProofs [r1,r2];rw[e0]
  exact h)]
 simp[j9,cY,fin]
theorem mH{mc:ag->OT}{me:ag->OE}{ρ:ag}{α:Type}{g h:α->PV}(p:α->Bool):∀ l:List α,(∀ a∈l,mc (ρ++[some (.sh (g a))])=.ok (p a))->(∀ a∈l,me (ρ++[some (.sh (g a))])=.ok (.sh (h a)))->eZ mc me ρ (l.map g)=.ok ((l.filter p).map h)
 |[],_,_=>rfl
 | a ::l,hc,he=>by
   have ih:=mH p l (fun a h=>hc a (List.mem_cons_of_mem _ h)) (fun a h=>he a (List.mem_cons_of_mem _ h));have h1:=hc a List.mem_cons_self;have h2:=he a List.mem_cons_self;rw[List.map_cons];unfold eZ;rw[h1,h2]
   cases hp:p a with
   |false=>simp[hp,ih]
   |true=>simp[hp,ih,fq]
noncomputable def hN(t:Nat)(d:Nd):Bool:=decide (d.a<t)&&decide ((t:Int)<d.b)
theorem nd0(d:Nd):dQ (ndP d) (.int 0)=some (.sh (.str d.s)):=rfl
theorem nd1(d:Nd):dQ (ndP d) (.int 1)=some (.sh (.int d.a)):=rfl
theorem nd2(d:Nd):dQ (ndP d) (.int 2)=some (.sh (.int d.b)):=rfl
theorem BW(t:Nat)(d:Nd)(i j:Nat)(ρ:ag)(h1:ρ[i]?=some (some (.sh (ndP d))))(h2:ρ[j]?=some (some (.sh (.int t)))):aA (nY gLt gLt (mOp dQ (ao i) (mC (.int 1))) (ao j) (mOp dQ (ao i) (mC (.int 2)))) ρ=.ok (hN t d):=by
 unfold hN
 by_cases e:d.a<t
 . simp -implicitDefEqProofs [aA,nY,h1,h2,nd1,nd2,e]
 . simp -implicitDefEqProofs [aA,nY,h1,h2,nd1,nd2,e]
noncomputable def kp(ks:List Int)(n:Int):List Int:=if n∈ks then ks else ks++[n]
noncomputable def dK(ks:List Int):List (Int×PV):=ks.map fun k=>(k,.bl true)
theorem vv{ks:List Int}{n m:Int}:m∈kp ks n↔m∈ks \/ m=n:=by
 unfold kp;split
 . rename_i h
   exact⟨.inl,fun z=>z.elim id fun y=>by rw[y];exact h⟩
 . simp
theorem wB{ks:List Int}{n:Int}(h:ks.Nodup):(kp ks n).Nodup:=by
 unfold kp;split
 . exact h
 . rename_i hn;refine List.nodup_append.mpr ⟨h,by simp,fun a ha b hb z=>?_⟩;rw[List.mem_singleton]at hb;subst hb;subst z;exact hn ha
theorem nX(ks:List Int)(n:Int):(kp ks n).length<=ks.length+1:=by unfold kp;split<;>simp
theorem Ey(ks:List Int)(n:Int):putD (dK ks) n (.bl true)=dK (kp ks n):=by
 unfold putD kp dK
 have ha:(ks.map fun k=>(k,PV.bl true)).any (fun p=>decide (p.1=n))=decide (n∈ks):=by
  rw[List.any_map]
  induction ks with
  |nil=>simp
  | cons k ks ih=>
    rw[List.any_cons,ih]
    by_cases z:k=n
    . subst z;simp
    . have z':¬ n=k:=fun y=>z y.symm
      simp[z,z']
 rw[ha]
 by_cases h:n∈ks
 . rw[decide_eq_true h,if_pos rfl,if_pos h,List.map_map]
   refine List.map_congr_left fun k _=>?_
   show(if k=n then(k,PV.bl true)else(k,.bl true))=_
   split<;>rfl
 . rw[decide_eq_false h,if_neg (by decide),if_neg h];simp
theorem zd{ρ:ag}{ks:List Int}{mk mv:ag->OE}{n:Int}(h:ρ[3]?=some (some (.tr false (.di (dK ks)))))(hk:mk ρ=.ok (.sh (.int n)))(hv:mv ρ=.ok (.sh (.bl true)))(hl:ks.length<lim):lT 3 aB mk mv ρ=.nx (ρ.set 3 (some (.tr false (.di (dK (kp ks n)))))):=by
 have hl':(dK ks).length<lim:=by unfold dK;rw[List.length_map];exact hl
 unfold lT;rw[hv];simp only[cN];unfold pY;rw[h];simp only[aB,OV.get_nil,hk,cN,RV.pv,hl',if_true,OV.gS,Ey]
noncomputable abbrev dE(ns:List Int)(V:Option Sl)(row ks:List Int)(x4 x5 x6 x7:Option Sl):ag:=[some (.sh (.lst (ns.map .int))),V,some (.sh (.lst (row.map .int))),some (.tr false (.di (dK ks))),x4,x5,x6,x7,none,none]
noncomputable def ndK(ks:List Int)(d:Nd):List Int:=if isB d.s=true then kp (kp ks d.a) (d.b - 1)else kp ks d.a
theorem Ax(ns:List Int)(V:Option Sl)(row ks:List Int)(x5 x6 x7:Option Sl)(d:Nd)(hl:ks.length+2<=1000000):oP (dE ns V row ks (some (.sh (ndP d))) x5 x6 x7)=.nx (dE ns V row (ndK ks d) (some (.sh (ndP d))) x5 x6 x7):=by
 have l2:(2:Nat)<=lim:=bR (by omega)
 have hb:∀ ks':List Int,aA (mOp gIn (mOp dQ (ao 4) (mC (.int 0))) (dG (ak (mC (.str "row")) (ak (mC (.str "fields")) aK)))) (dE ns V row ks' (some (.sh (ndP d))) x5 x6 x7)=.ok (isB d.s):=fun ks'=>by
  have e1:decide ("row" = d.s)=decide (d.s = "row"):=decide_eq_decide.mpr eq_comm
  have e2:decide ("fields" = d.s)=decide (d.s = "fields"):=decide_eq_decide.mpr eq_comm
  simp -implicitDefEqProofs [aA,nd0,gIn,nM,dO,je,isB,bQ,l2,e1,e2]
 unfold oP;rw[aE (zd (ks:=ks) (n:=d.a) rfl (by simp -implicitDefEqProofs [nd1]) rfl (bR (n:=ks.length+1) (by omega)))];show bz _ _ _ (dE ns V row (kp ks d.a) (some (.sh (ndP d))) x5 x6 x7)=_;have hkl:=nX ks d.a;unfold ndK
 cases hq:isB d.s with
 | true=>
   have:=hb (kp ks d.a);rw[hq]at this;rw[oD this,zd (ks:=kp ks d.a) (n:=d.b - 1) rfl (by simp -implicitDefEqProofs [nd2]) rfl (bR (n:=(kp ks d.a).length+1) (by omega))];rfl
 | false=>
   have:=hb (kp ks d.a);rw[hq]at this;rw[qt this,mJ];rfl
theorem wO(ns:List Int)(V:Option Sl)(row:List Int)(x5 x6 x7:Option Sl):∀(nds:List Nd) (ks:List Int) (o:Option Sl),ks.length+2*nds.length<=1000000->∃ o',dM 4 oP (nds.map ndP) (dE ns V row ks o x5 x6 x7)=.nx (dE ns V row (nds.foldl ndK ks) o' x5 x6 x7)
 |[],ks,o,_=>⟨o,rfl⟩
 | d ::nds,ks,o,hl=>by
   simp only[List.length_cons]at hl
   have hd:(ndK ks d).length<=ks.length+2:=by
    have h1:=nX ks d.a;have h2:=nX (kp ks d.a) (d.b - 1)
    unfold ndK;split<;>omega
   obtain⟨o',ih⟩:=wO ns V row x5 x6 x7 nds (ndK ks d) (some (.sh (ndP d))) (by omega)
   exact⟨o',by rw[List.map_cons,ng (Ax ns V row ks x5 x6 x7 d (by omega)),ih];rfl⟩
theorem yE:∀(nds:List Nd) (ks:List Int) (m:Int),m∈nds.foldl ndK ks↔m∈ks \/ (∃ d∈nds,d.a=m) \/ ∃ d∈nds,isB d.s=true /\ d.b - 1=m
 |[],ks,m=>by simp
 | d ::nds,ks,m=>by
   rw[List.foldl_cons,yE nds (ndK ks d) m]
   have h:m∈ndK ks d↔m∈ks \/ d.a=m \/ (isB d.s=true /\ d.b - 1=m):=by
    unfold ndK
    cases hq:isB d.s with
    | true=>simp only [if_true,vv,true_and]; constructor
            . rintro((z|z)|z)
              . exact .inl z
              . exact .inr (.inl z.symm)
              . exact .inr (.inr z.symm)
            . rintro(z|z|z)
              . exact .inl (.inl z)
              . exact .inl (.inr z.symm)
              . exact .inr z.symm
    |false=>simp only[Bool.false_eq_true,if_false,vv,false_and,or_false];exact⟨fun z=>z.imp id Eq.symm,fun z=>z.imp id Eq.symm⟩
   rw[h];simp only[List.mem_cons,exists_eq_or_imp];constructor
   . rintro((z|z|z)|z|z)
     . exact .inl z
     . exact .inr (.inl (.inl z))
     . exact .inr (.inr (.inl z))
     . exact .inr (.inl (.inr z))
     . exact .inr (.inr (.inr z))
   . rintro(z|(z|z)|(z|z))
     . exact .inl (.inl z)
     . exact .inl (.inr (.inl z))
     . exact .inr (.inl z)
     . exact .inl (.inr (.inr z))
     . exact .inr (.inr z)
theorem B6:∀(nds:List Nd) (ks:List Int),ks.Nodup->(nds.foldl ndK ks).Nodup
 |[],ks,h=>h
 |d ::nds,ks,h=>B6 nds _ (by unfold ndK;split;exact wB (wB h);exact wB h)
noncomputable def rR(row:List Int)(txs:List Nd)(k:Nat):Bool:=(decide ((row[k]?).getD 0=44)||decide ((row[k]?).getD 0=58))&&(txs.filter (hN k)).isEmpty
noncomputable def lx(row:List Int)(txs:List Nd)(ks:List Int)(k:Nat):List Int:=if rR row txs k=true then kp ks k else ks
theorem Ab(ns:List Int)(V:Option Sl)(row ks:List Int)(x4 x7:Option Sl)(txs:List Nd)(k:Nat)(hk:k<row.length)(ht:txs.length<=1000)(hl:ks.length+1<=1000000):oZ (dE ns V row ks x4 (some (.ow (txs.map ndP))) (some (.sh (.int k))) x7)=.nx (dE ns V row (lx row txs ks k) x4 (some (.ow (txs.map ndP))) (some (.sh (.int k))) x7):=by
 have l2:(2:Nat)<=lim:=bR (by omega)
 have hx:row[k]?=some row[k]:=List.getElem?_eq_getElem hk
 have hat:atP (row.map PV.int) (k:Int)=some (.int row[k]):=by rw[ll,List.getElem?_map,hx];rfl
 have h1:aA (mOp gIn (mOp i7 (ao 2) (ao 6)) (dG (ak (mC (.int 44)) (ak (mC (.int 58)) aK)))) (dE ns V row ks x4 (some (.ow (txs.map ndP))) (some (.sh (.int k))) x7)=.ok (decide (row[k]=44)||decide (row[k]=58)):=by
  have e1:decide (44=row[k])=decide (row[k]=44):=decide_eq_decide.mpr eq_comm
  have e2:decide (58=row[k])=decide (row[k]=58):=decide_eq_decide.mpr eq_comm
  simp -implicitDefEqProofs [aA,i7,hat,gIn,nM,dO,je,l2];generalize row[k]=z
  grind
 have ef:=mH (mc:=m5) (me:=lh) (ρ:=[some (.sh (.int k))]) (g:=ndP) (h:=ndP) (hN k) txs (fun d _=>BW k d 1 0 _ rfl rfl) (fun d _=>by simp[lh])
 have hfl:(txs.filter (hN k)).length<=lim:=bR (by
  have:=List.length_filter_le (hN k) txs
  omega)
 have h2:oz (bw (gA (ao 5) [6] m5 lh)) (dE ns V row ks x4 (some (.ow (txs.map ndP))) (some (.sh (.int k))) x7)=.ok (txs.filter (hN k)).isEmpty:=by
  have hc:gA (ao 5) [6] m5 lh (dE ns V row ks x4 (some (.ow (txs.map ndP))) (some (.sh (.int k))) x7)=.ok (.fr ((txs.filter (hN k)).map ndP)):=by
   unfold gA;simp -implicitDefEqProofs [b4,ef,noX,hfl]
  unfold oz bw;rw[hc]
  cases txs.filter (hN k)<;>simp[fN]
 have hq:cC (aA (mOp gIn (mOp i7 (ao 2) (ao 6)) (dG (ak (mC (.int 44)) (ak (mC (.int 58)) aK))))) (oz (bw (gA (ao 5) [6] m5 lh))) (dE ns V row ks x4 (some (.ow (txs.map ndP))) (some (.sh (.int k))) x7)=.ok (rR row txs k):=by
  unfold cC rR;rw[h1,h2,hx];simp only[Option.getD_some]
  cases(decide (row[k]=44)||decide (row[k]=58))<;>rfl
 unfold oZ lx
 cases hs:rR row txs k with
 | true=>
   rw[hs]at hq;rw[oD hq,zd (ks:=ks) (n:=k) rfl (by simp) rfl (bR (n:=ks.length+1) (by omega))];rfl
 | false=>
   rw[hs]at hq;rw[qt hq,mJ];rfl
theorem tN(ns:List Int)(V:Option Sl)(row:List Int)(x4 x7:Option Sl)(txs:List Nd)(ht:txs.length<=1000):∀(l:List Nat) (ks:List Int) (o:Option Sl),(∀ k∈l,k<row.length)->ks.length+l.length<=1000000->∃ o',dM 6 oZ (l.map fun k:Nat=>PV.int k) (dE ns V row ks x4 (some (.ow (txs.map ndP))) o x7)=.nx (dE ns V row (l.foldl (lx row txs) ks) x4 (some (.ow (txs.map ndP))) o' x7)
 |[],ks,o,_,_=>⟨o,rfl⟩
 | k ::l,ks,o,hk,hl=>by
   simp only[List.length_cons]at hl
   have hd:(lx row txs ks k).length<=ks.length+1:=by
    have:=nX ks k
    unfold lx;split<;>omega
   obtain⟨o',ih⟩:=tN ns V row x4 x7 txs ht l (lx row txs ks k) (some (.sh (.int k))) (fun j hj=>hk j (List.mem_cons_of_mem _ hj)) (by omega)
   exact⟨o',by rw[List.map_cons,ng (Ab ns V row ks x4 x7 txs k (hk k List.mem_cons_self) ht (by omega)),ih];rfl⟩
theorem vX(row:List Int)(txs:List Nd):∀(l:List Nat) (ks:List Int) (m:Int),m∈l.foldl (lx row txs) ks↔m∈ks \/ ∃ k∈l,(k:Int)=m /\ rR row txs k=true
 |[],ks,m=>by simp
 | k ::l,ks,m=>by
   rw[List.foldl_cons,vX row txs l]
   have h:m∈lx row txs ks k↔m∈ks \/ ((k:Int)=m /\ rR row txs k=true):=by
    unfold lx
    cases hq:rR row txs k with
    |true=>simp only[if_true,vv,and_true];exact⟨fun z=>z.imp id Eq.symm,fun z=>z.imp id Eq.symm⟩
    |false=>simp
   rw[h];simp only[List.mem_cons,exists_eq_or_imp];constructor
   . rintro((z|z)|z)
     . exact .inl z
     . exact .inr (.inl z)
     . exact .inr (.inr z)
   . rintro(z|z|z)
     . exact .inl (.inl z)
     . exact .inl (.inr z)
     . exact .inr z
theorem yI(row:List Int)(txs:List Nd):∀(l:List Nat) (ks:List Int),ks.Nodup->(l.foldl (lx row txs) ks).Nodup
 |[],ks,h=>h
 |k ::l,ks,h=>yI row txs l _ (by unfold lx;split;exact wB h;exact h)
theorem uZ(row:List Int)(nds:List Nd)(hb:∀ d∈nds,d.b≠0)(hm:∀ i,i∈mkl PG.m0 0 row↔MkS row (nds.map Nd.t) i):
  qK ((List.range row.length).foldl (lx row (nds.filter fun d=>isT d.s)) (nds.foldl ndK []))=mkl PG.m0 0 row /\ ((List.range row.length).foldl (lx row (nds.filter fun d=>isT d.s)) (nds.foldl ndK [])).length=(mkl PG.m0 0 row).length:=by
 have hlt:=qT row PG.m0 0
 have hnd:(mkl PG.m0 0 row).Nodup:=hlt.imp fun h=>Int.ne_of_lt h
 have hnk:((List.range row.length).foldl (lx row (nds.filter fun d=>isT d.s)) (nds.foldl ndK [])).Nodup:=yI _ _ _ _ (B6 nds [] .nil)
 have hperm:((List.range row.length).foldl (lx row (nds.filter fun d=>isT d.s)) (nds.foldl ndK [])).Perm (mkl PG.m0 0 row):=by
  refine(List.perm_ext_iff_of_nodup hnk hnd).mpr fun i=>?_
  rw[vX,yE,hm];unfold MkS thd u7;constructor
  . rintro((z|⟨d,hd,z⟩|⟨d,hd,z1,z2⟩)|⟨k,hk,rfl,hq⟩)
    . cases z
    . exact .inl ⟨d.t,List.mem_map_of_mem hd,z⟩
    . exact .inr (.inl ⟨d.t,List.mem_map_of_mem hd,z1,hb d hd,z2⟩)
    . have hkl:=List.mem_range.mp hk;unfold rR at hq;rw[Bool.and_eq_true,List.getElem?_eq_getElem hkl]at hq;refine .inr (.inr ⟨⟨k,rfl,?_⟩,fun e he hT z=>?_⟩)
      . rw[List.getElem?_eq_getElem hkl]
        simpa using hq.1
      . obtain⟨d,hd,rfl⟩:=List.mem_map.mp he
        have hmem:d∈(nds.filter fun d=>isT d.s).filter (hN k):=List.mem_filter.mpr ⟨List.mem_filter.mpr ⟨hd,hT⟩,by
         unfold hN
         have z1:d.a<(k:Int):=z.1
         have z2:(k:Int)<d.b:=z.2
         simp[z1,z2]⟩
        rw[List.isEmpty_iff.mp hq.2]at hmem;cases hmem
  . rintro(⟨e,he,z⟩|⟨e,he,z1,_,z2⟩|⟨⟨k,rfl,hq⟩,ho⟩)
    . obtain⟨d,hd,rfl⟩:=List.mem_map.mp he;exact .inl (.inr (.inl ⟨d,hd,z⟩))
    . obtain⟨d,hd,rfl⟩:=List.mem_map.mp he;exact .inl (.inr (.inr ⟨d,hd,z1,z2⟩))
    . have hkl:k<row.length:=by rcases hq with z|z<;>exact(List.getElem?_eq_some_iff.mp z).1
      refine .inr ⟨k,List.mem_range.mpr hkl,rfl,?_⟩;unfold rR;rw[Bool.and_eq_true]
      refine⟨?_,?_⟩
      . rcases hq with z|z<;>rw[z]<;>simp
      . rw[List.isEmpty_iff,List.filter_eq_nil_iff];intro d hd z;rw[List.mem_filter]at hd;unfold hN at z;simp only[Bool.and_eq_true,decide_eq_true_eq]at z;exact ho d.t (List.mem_map_of_mem hd.1) hd.2 z
 refine⟨rh ((mF _).trans hperm) (jD _) (hlt.imp fun h=>Int.le_of_lt h),hperm.length_eq⟩
theorem eql(xs ys:List Int):uL (.lst (xs.map .int)) (.lst (ys.map .int))=some (.sh (.bl (decide (xs=ys)))):=by
 simp[uL,BM]
theorem wy(row:List Int):∀(s:Ms) (i:Nat),(mkl s i row).length<=row.length:=by
 induction row with
 |nil=>intro s i;exact Nat.le_refl _
 | cons b row ih=>
   intro s i;have:=ih (mst s b) (i+1);rw[mkl]
   split<;>simp<;>omega
theorem AG(ns row:List Int)(nds:List Nd)(val:PV)(V:Option Sl)(hV:V=some (.sh (.tup [.lst (row.map .int),.lst (nds.map ndP),val])))(hl:row.length<=9000)(hnl:nds.length<=900)(hb:∀ d∈nds,d.b≠0)(hm:∀ i,i∈mkl PG.m0 0 row↔MkS row (nds.map Nd.t) i)(hc:(mkl PG.m0 0 row).length<64)(h0:PG.mix ns 61%2=0):
  fin (nk [some (.sh (.lst (ns.map .int))),V,some (.sh (.lst (row.map .int))),none,none,none,none,none,none,none])=.ok (.sh (.bl true)):=by
 obtain⟨hk1,hk2⟩:=uZ row nds hb hm;generalize hK:(List.range row.length).foldl (lx row (nds.filter fun d=>isT d.s)) (nds.foldl ndK [])=K at *
 have htl:(nds.filter fun d=>isT d.s).length<=1000:=by
  have:=List.length_filter_le (fun d:Nd=>isT d.s) nds;omega
 have hfl:(nds.foldl ndK []).length<=2*nds.length:=by
  have key:∀(nds:List Nd) (ks:List Int),(nds.foldl ndK ks).length<=ks.length+2*nds.length:=by
   intro nds
   induction nds with
   |nil=>intro ks;simp
   | cons d nds ih=>
     intro ks;have h1:=nX ks d.a;have h2:=nX (kp ks d.a) (d.b - 1)
     have h3:(ndK ks d).length<=ks.length+2:=by unfold ndK;split<;>omega
     have:=ih (ndK ks d);rw[List.foldl_cons,List.length_cons];omega
  simpa using key nds []
 generalize htx:nds.filter (fun d=>isT d.s)=txs at *
 have v1:∀(ks:List Int) (x4 x5 x6 x7:Option Sl),mOp dQ (ao 1) (mC (.int 1)) (dE ns V row ks x4 x5 x6 x7)=.ok (.sh (.lst (nds.map ndP))):=by
  intro ks x4 x5 x6 x7;rw[hV];simp[dQ,atP,ixP]
 obtain⟨o1,e1⟩:=wO ns V row none none none nds [] none (by simp;omega);obtain⟨o2,e2⟩:=tN ns V row o1 none txs htl (List.range row.length) (nds.foldl ndK []) none (fun k hk=>List.mem_range.mp hk) (by simp;omega);rw[hK]at e2;have em:=kU row (by omega);have hml:=wy row PG.m0 0;have ew:=eN (mkl PG.m0 0 row) (by omega);unfold nk;refine ky (ρ:=dE ns V row K o1 (some (.ow (txs.map ndP))) o2 (some (.sh (.lst ((mkl PG.m0 0 row).map .int))))) (st (by simp[aA,bL,h0]) ?_)
 refine(aE (ρ':=dE ns V row [] none none none none) (by simp[jZ,xD,dK])).trans ?_
 refine(aE (ρ':=dE ns V row (nds.foldl ndK []) o1 none none none) (by
  unfold jY;rw[v1];simp only[cN,zM];exact e1)).trans ?_
 refine(aE (ρ':=dE ns V row (nds.foldl ndK []) o1 (some (.ow (txs.map ndP))) none none) (by
  have l2:(2:Nat)<=lim:=bR (by omega)
  have ef:=mH (mc:=sm) (me:=sU) (ρ:=[]) (g:=ndP) (h:=ndP) (fun d=>isT d.s) nds (fun d _=>by
   have e1:decide ("name" = d.s)=decide (d.s = "name"):=decide_eq_decide.mpr eq_comm
   have e2:decide ("text" = d.s)=decide (d.s = "text"):=decide_eq_decide.mpr eq_comm
   simp -implicitDefEqProofs [sm,aA,nd0,gIn,nM,dO,je,isT,bQ,l2,e1,e2]
   exact Bool.or_comm _ _) (fun d _=>by simp[sU])
  rw[htx]at ef
  have hfl2:txs.length<=lim:=bR (by omega)
  unfold aF gA;rw[v1]
  simp -implicitDefEqProofs [b4,ef,noX,hfl2])).trans ?_
 refine(aE (ρ':=dE ns V row K o1 (some (.ow (txs.map ndP))) o2 none) (by
  have r1:-4611686018427387904<=(row.length:Int):=by omega
  have r2:(row.length:Int)<4611686018427387904:=by omega
  unfold jX
  simp -implicitDefEqProofs only[CN,sQ,List.getElem?_cons_succ,List.getElem?_cons_zero,n8,RV.pv,zm,sI,cN,List.length_map]
  simp -implicitDefEqProofs [r1,r2]
  exact e2)).trans ?_
 refine(aE (ρ':=dE ns V row K o1 (some (.ow (txs.map ndP))) o2 (some (.ow ((mkl PG.m0 0 row).map .int)))) (by
  unfold cw;rw[show fT 2 (dE ns V row K o1 (some (.ow (txs.map ndP))) o2 none)=dE ns V row K o1 (some (.ow (txs.map ndP))) o2 none from rfl]
  simp[aF,em])).trans ?_
 unfold cw;rw[show fT 7 (dE ns V row K o1 (some (.ow (txs.map ndP))) o2 (some (.ow ((mkl PG.m0 0 row).map .int))))=dE ns V row K o1 (some (.ow (txs.map ndP))) o2 (some (.sh (.lst ((mkl PG.m0 0 row).map .int)))) from rfl];unfold ij;rw[show jV 3 (dE ns V row K o1 (some (.ow (txs.map ndP))) o2 (some (.sh (.lst ((mkl PG.m0 0 row).map .int)))))=dE ns V row K o1 (some (.ow (txs.map ndP))) o2 (some (.sh (.lst ((mkl PG.m0 0 row).map .int)))) from rfl]
 have hso:lg 3 aB (dE ns V row K o1 (some (.ow (txs.map ndP))) o2 (some (.sh (.lst ((mkl PG.m0 0 row).map .int)))))=.ok (.fr ((mkl PG.m0 0 row).map .int)):=by
  unfold lg;rw[eO (aN (s:=.tr false (.di (dK K))) rfl rfl)]
  have hdl:(dK K).length<64:=by unfold dK;rw[List.length_map];omega
  have hdk:(dK K).map (·.1)=K:=by unfold dK;rw[List.map_map];exact List.map_id K
  simp only[hdl,if_true,hdk,hk1]
 have hq:=eql (mkl PG.m0 0 row) (mkl PG.m0 0 row);rw[decide_eq_true rfl]at hq
 have h7:ao 7 (dE ns V row K o1 (some (.ow (txs.map ndP))) o2 (some (.sh (.lst ((mkl PG.m0 0 row).map .int)))))=.ok (.sh (.lst ((mkl PG.m0 0 row).map .int))):=by simp
 have hweq:bK cx (ak (ao 7) aK) (dE ns V row K o1 (some (.ow (txs.map ndP))) o2 (some (.sh (.lst ((mkl PG.m0 0 row).map .int)))))=.ok (.sh (.bl true)):=by
  unfold bK ak aK;rw[h7];simp[fq,ew]
 have heq:mOp uL (ao 7) (lg 3 aB) (dE ns V row K o1 (some (.ow (txs.map ndP))) o2 (some (.sh (.lst ((mkl PG.m0 0 row).map .int)))))=.ok (.sh (.bl true)):=by
  unfold mOp;rw[h7,hso];simp -implicitDefEqProofs [RV.pv,hq]
 unfold cS hU;rw[hweq,heq];simp[fN]
noncomputable def ji:List Int:=[34,92,32,9,10,13,91,93,123,125,44,58,97,98,34,200,0,11,12,31]
theorem Ap(ns row:List Int)(V:Option Sl)(h0:¬ PG.mix ns 61%2=0):
  fin (nk [some (.sh (.lst (ns.map .int))),V,some (.sh (.lst (row.map .int))),none,none,none,none,none,none,none])=.ok (.sh (.bl true)):=by
 have l20:(20:Nat)<=lim:=bR (by omega)
 unfold nk;rw[sk (by simp[aA,bL,h0])];unfold wb;rw[aE (ρ':=[some (.sh (.lst (ns.map .int))),V,some (.sh (.lst (row.map .int))),none,none,none,none,none,some (.ow (ji.map .int)),none]) (by simp[aF,ji,l20])]
 obtain⟨m,hm⟩:∃ m:Nat,(m:Int)=PG.mix ns 60%41:=⟨(PG.mix ns 60%41).toNat,by omega⟩
 have hm41:m<=40:=by omega
 generalize hr:(List.range m).map (fun k:Nat=>ji.getD (PG.mix ns k%20).toNat 0)=r2
 have hrl:r2.length=m:=by rw[<- hr];simp
 unfold v5
 rw[aE (ρ':=[some (.sh (.lst (ns.map .int))),V,some (.ow (r2.map .int)),none,none,none,none,none,some (.ow (ji.map .int)),none]) (by
  have he:cf oU [some (.sh (.lst (ns.map .int))),some (.ow (ji.map .int))] (bX m)=.ok (r2.map .int):=by
   unfold bX;rw[<- hr,List.map_map];refine fZ (me:=oU) (ρ:=[some (.sh (.lst (ns.map .int))),some (.ow (ji.map .int))]) (g:=fun k:Nat=>PV.int k) (f:=fun k:Nat=>PV.int (ji.getD (PG.mix ns k%20).toNat 0)) (List.range m) (fun k _=>?_);have hn:=Int.emod_nonneg (PG.mix ns k) (show(20:Int)≠0 by decide);have hlt:=Int.emod_lt_of_pos (PG.mix ns k) (show(0:Int)<20 by decide)
   have hat:atP (ji.map PV.int) (PG.mix ns k%20)=some (.int (ji.getD (PG.mix ns k%20).toNat 0)):=by
    have hi:(PG.mix ns k%20).toNat<ji.length:=by show _<20;omega
    rw[vg _ _ hn,List.getElem?_map,List.getElem?_eq_getElem hi,List.getD_eq_getElem?_getD,List.getElem?_eq_getElem hi];rfl
   generalize ji=L at *;simp -implicitDefEqProofs [oU,bL,i7,hat]
  have lm:m<=lim:=bR (by omega)
  have r1:-4611686018427387904<=(PG.mix ns 60%41):=by omega
  have r2':(PG.mix ns 60%41)<4611686018427387904:=by omega
  have e1:(PG.mix ns 60%41).toNat=m:=by omega
  generalize ji=L at *
  simp -implicitDefEqProofs [aF,nW,bL,r1,r2',e1,b4,he,noX,hrl,lm])]
 generalize ji=L;have em:=kU r2 (by omega);have ewk:=zj r2 (by omega);have hml:=wy r2 PG.m0 0;have ew:=eN (mkl PG.m0 0 r2) (by omega);unfold vK
 rw[aE (ρ':=[some (.sh (.lst (ns.map .int))),V,some (.ow (r2.map .int)),none,none,none,none,none,some (.ow (L.map .int)),some (.ow (r2.map .int))]) (by
  simp[aF,mL])]
 unfold wJ
 rw[aE (ρ':=[some (.sh (.lst (ns.map .int))),V,some (.ow (r2.map .int)),none,none,none,none,some (.ow ((mkl PG.m0 0 r2).map .int)),some (.ow (L.map .int)),some (.sh (.lst (r2.map .int)))]) (by
  simp[cw,fT,aF,em])]
 have q1:=eql (mkl PG.m0 0 r2) (mkl PG.m0 0 r2);have q2:=eql r2 r2;rw[decide_eq_true rfl]at q1 q2;unfold wL cw;simp -implicitDefEqProofs [fT,hU,ew,ewk,q1,q2,fN]
theorem zl(ns:List Int)(_:ns.length<=63):qA [.lst (ns.map .int)]=.ok (.sh (.bl true)):=by
 obtain⟨m,hm⟩:∃ m:Nat,(m:Int)=1+PG.mix ns 62%9:=⟨(1+PG.mix ns 62%9).toNat,by omega⟩
 have hm1:1<=m:=by omega
 have hm2:m<=9:=by omega
 obtain⟨c,hpn,hc,hrl,hnl⟩:=yV ns m hm1 (by omega);have hb:=A8 ns m (by omega);have I:=hpn.pc.inv;have M:=hpn.mi;have hct:=M.ct;generalize (lI ns m).row=row at *;generalize (lI ns m).nodes=nds at *;generalize (lI ns m).val=val at *;unfold qA fnP;rw[if_pos (show List.length [PV.lst (ns.map .int)]=1 from rfl),show eT 10 [PV.lst (ns.map .int)]=[some (.sh (.lst (ns.map .int))),none,none,none,none,none,none,none,none,none] from rfl];unfold Cn
 rw[aE (ρ':=[some (.sh (.lst (ns.map .int))),some (.sh (.tup [.lst (row.map .int),.lst (nds.map ndP),val])),none,none,none,none,none,none,none,none]) (by
  rw[hm]at hb
  simp[aF,bL,hb])]
 unfold wu
 rw[aE (ρ':=[some (.sh (.lst (ns.map .int))),some (.sh (.tup [.lst (row.map .int),.lst (nds.map ndP),val])),some (.sh (.lst (row.map .int))),none,none,none,none,none,none,none]) (by
  simp[aF,dQ,atP,ixP])]
 by_cases h0:PG.mix ns 61%2=0
 . exact AG ns row nds val _ rfl (by omega) (by omega) (fun d hd=>I.op d.t (List.mem_map_of_mem hd)) M.me (by omega) h0
 . exact Ap ns row _ h0
end L2.plainglass_k27_marks_placed
namespace L2.plainglass_k27_marks_placed
open PySem PySem.Spec PyProof.Rows L2.E L2.P PG
def top(i:Nat):Stmt:=PySem.Challenge.pw_plainglass_k27_marks_placed.main.body.getD i (.Pass ⟨0,0,0,0⟩)
abbrev lV:Stmt:=top 10
abbrev kj:List Str:=["byte"]
theorem uF:bx ["byte"] kj (aG lV):=gV
abbrev rm:Stmt:=top 12
abbrev pL:List Str:=["row"]
theorem jf:bx ["row","found","ahead","place","sort"] pL (aG rm):=gV
abbrev rY:Stmt:=top 13
abbrev pI:List Str:=["row"]
theorem gC:bx ["row","found","inside","taken_along","byte"] pI (aG rY):=gV
abbrev ir:Stmt:=top 14
abbrev gM:List Str:=["byte"]
theorem oG:bx ["byte"] gM (aG ir):=gV
abbrev mf:Stmt:=top 16
abbrev j4:List Str:=["_law_script","_law_k"]
theorem tH:bx ["_law_script","_law_k"] j4 (aG mf):=gV
abbrev nN:Stmt:=top 17
abbrev mB:List Str:=["_law_script","_law_k"]
theorem lZ:bx ["_law_script","_law_k","_law_number_here"] mB (aG nN):=gV
abbrev kb:Stmt:=top 18
abbrev jy:List Str:=["_law_found"]
theorem rQ:bx ["_law_found"] jy (aG kb):=gV
abbrev jx:Stmt:=top 19
abbrev iV:List Str:=["_law_found"]
theorem qp:bx ["_law_found"] iV (aG jx):=gV
abbrev kn:Stmt:=top 20
abbrev jU:List Str:=["_law_number_here"]
theorem jv:bx ["_law_number_here","_law_kind","_law_rest"] jU (aG kn):=gV
abbrev jt:Stmt:=top 21
abbrev i2:List Str:=["_law_script","_law_k"]
theorem gi:bx ["_law_script","_law_k","_law_number_here","_law_size_here"] i2 (aG jt):=gV
abbrev j5:Stmt:=top 22
abbrev jO:List Str:=["_law_point_here"]
theorem eI:bx ["_law_point_here","_law_many_here","_law_found","_law_k"] jO (aG j5):=gV
abbrev nQ:Stmt:=top 23
abbrev mE:List Str:=["_law_number_here","_law_big"]
theorem fF:bx ["_law_number_here","_law_big","_law_found","_law_k","_law_worth"] mE (aG nQ):=gV
abbrev mq:Stmt:=top 24
abbrev kq:List Str:=["_law_point_here","_law_number_here"]
theorem iM:bx ["_law_point_here","_law_number_here","_law_short","_law_way","_law_rest"] kq (aG mq):=gV
abbrev mx:Stmt:=top 25
abbrev j6:List Str:=["_law_points_here","_law_number_here"]
theorem fG:bx ["_law_points_here","_law_number_here","_law_found","_law_at","_law_point_here"] j6 (aG mx):=gV
abbrev jG:Stmt:=top 26
abbrev jc:List Str:=["_law_number_here"]
theorem aP:bx ["_law_number_here","_law_below","_law_figures_here","_law_row","_law_worth","_law_figure","_law_power","_law_more","_law_down"] jc (aG jG):=gV
abbrev kO:Stmt:=top 27
abbrev jq:List Str:=["_law_worth","_law_power"]
theorem jr:bx ["_law_worth","_law_power"] jq (aG kO):=gV
abbrev kR:Stmt:=top 28
abbrev ju:List Str:=["_law_number_here"]
theorem rS:bx ["_law_number_here"] ju (aG kR):=gV
abbrev fR:Stmt:=top 29
abbrev fu:List Str:=["_law_script","_law_number_here"]
theorem dq:bx ["_law_script","_law_number_here","_law_kind","_law_points_here","_law_found"] fu (aG fR):=gV
abbrev lX:Stmt:=top 30
abbrev kL:List Str:=["_law_script","_law_number_here"]
theorem ug:bx ["_law_script","_law_number_here"] kL (aG lX):=gV
abbrev kF:Stmt:=top 31
abbrev jQ:List Str:=["_law_row","_law_nodes_here","_law_frames"]
theorem js:bx ["_law_row","_law_nodes_here","_law_frames","_law_frame","_law_value_here"] jQ (aG kF):=gV
abbrev kC:Stmt:=top 32
abbrev jB:List Str:=["_law_script","_law_row","_law_nodes_here","_law_frames","_law_number_here"]
theorem fV:bx ["_law_script","_law_row","_law_nodes_here","_law_frames","_law_number_here","_law_name_here","_law_points_here","_law_at"] jB (aG kC):=gV
abbrev kg:Stmt:=top 33
abbrev jH:List Str:=["_law_script","_law_many_here"]
theorem bH:bx ["_law_script","_law_many_here","_law_row","_law_nodes_here","_law_frames","_law_value_here","_law_k","_law_number_here","_law_name_here","_law_at","_law_kind","_law_found"] jH (aG kg):=gV
abbrev jJ:Stmt:=top 34
abbrev i8:List Str:=["_law_row"]
theorem bt:bx ["_law_row","_law_found","_law_inside","_law_skip","_law_run","_law_at","_law_byte"] i8 (aG jJ):=gV
abbrev uc:Stmt:=top 35
abbrev uU:List Str:=["_law_script"]
theorem gL:bx ["_law_script","_law_built_here","_law_row","_law_due","_law_node","_law_texts","_law_at","_law_found","_law_menu","_law_handed"] uU (aG uc):=gV
set_option genInjectivity false in
set_option genSizeOf false in
structure Adr where
 fA:Addr
 d_is_white:FuncData
 iB:Addr
 d_marks:FuncData
 iN:Addr
 d_sorts:FuncData
 bY:Addr
 d_outside_sort:FuncData
 fB:Addr
 d_law_cell:FuncData
 ck:Addr
 d_law_mix:FuncData
 dY:Addr
 d_law_whole:FuncData
 cx:Addr
 d_law_wholes:FuncData
 b9:Addr
 d_law_point:FuncData
 cu:Addr
 d_law_points:FuncData
 cA:Addr
 d_law_eight:FuncData
 eQ:Addr
 d_law_hex:FuncData
 fz:Addr
 d_law_sign:FuncData
 dn:Addr
 d_law_text:FuncData
 dr:Addr
 d_law_number:FuncData
 cJ:Addr
 d_law_plain:FuncData
 bO:Addr
 d_law_white:FuncData
 bI:Addr
 d_law_plain_value:FuncData
 eD:Addr
 d_law_name:FuncData
 bT:Addr
 d_law_close:FuncData
 dm:Addr
 d_law_begin:FuncData
 dU:Addr
 d_law_built:FuncData
 du:Addr
 d_law_walked:FuncData
 qA:Addr
 d_law:FuncData
 v_QUOTE:Value
 v_COMMA:Value
 v_COLON:Value
 v_ROW_BEGIN:Value
 v_BACKSLASH:Value
 v_ROW_END:Value
 v_FIELDS_BEGIN:Value
 v_FIELDS_END:Value
 v_WHITE:Addr
structure Txt(K:PySem.W.Frag)(mg:Str->Option Value)(t:Adr):Prop where
 ft:Ent K mg "is_white" lV t.fA t.d_is_white kj
 kU:Ent K mg "marks" rm t.iB t.d_marks pL
 o5:Ent K mg "sorts" rY t.iN t.d_sorts pI
 e_outside_sort:Ent K mg "outside_sort" ir t.bY t.d_outside_sort gM
 jC:Ent K mg "_law_cell" mf t.fB t.d_law_cell j4
 bL:Ent K mg "_law_mix" nN t.ck t.d_law_mix mB
 iQ:Ent K mg "_law_whole" kb t.dY t.d_law_whole jy
 eN:Ent K mg "_law_wholes" jx t.cx t.d_law_wholes iV
 iE:Ent K mg "_law_point" kn t.b9 t.d_law_point jU
 eM:Ent K mg "_law_points" jt t.cu t.d_law_points i2
 iD:Ent K mg "_law_eight" j5 t.cA t.d_law_eight jO
 fY:Ent K mg "_law_hex" nQ t.eQ t.d_law_hex mE
 jW:Ent K mg "_law_sign" mq t.fz t.d_law_sign kq
 gd:Ent K mg "_law_text" mx t.dn t.d_law_text j6
 gT:Ent K mg "_law_number" jG t.dr t.d_law_number jc
 e_law_plain:Ent K mg "_law_plain" kO t.cJ t.d_law_plain jq
 cm:Ent K mg "_law_white" kR t.bO t.d_law_white ju
 e_law_plain_value:Ent K mg "_law_plain_value" fR t.bI t.d_law_plain_value fu
 jK:Ent K mg "_law_name" lX t.eD t.d_law_name kL
 e_law_close:Ent K mg "_law_close" kF t.bT t.d_law_close jQ
 e_law_begin:Ent K mg "_law_begin" kC t.dm t.d_law_begin jB
 e_law_built:Ent K mg "_law_built" kg t.dU t.d_law_built jH
 e_law_walked:Ent K mg "_law_walked" jJ t.du t.d_law_walked i8
 zl:Ent K mg "law" uc t.qA t.d_law uU
 n_enumerate:mg "enumerate" = none
 n_len:mg "len" = none
 n_isinstance:mg "isinstance" = none
 n_int:mg "int" = none
 n_bool:mg "bool" = none
 n_list:mg "list" = none
 n_all:mg "all" = none
 n_range:mg "range" = none
 n_str:mg "str" = none
 n_ord:mg "ord" = none
 n_tuple:mg "tuple" = none
 n_sorted:mg "sorted" = none
 m_QUOTE:mg "QUOTE" = some t.v_QUOTE
 r_QUOTE:RelV (.int 34) t.v_QUOTE
 m_COMMA:mg "COMMA" = some t.v_COMMA
 r_COMMA:RelV (.int 44) t.v_COMMA
 m_COLON:mg "COLON" = some t.v_COLON
 r_COLON:RelV (.int 58) t.v_COLON
 m_ROW_BEGIN:mg "ROW_BEGIN" = some t.v_ROW_BEGIN
 r_ROW_BEGIN:RelV (.int 91) t.v_ROW_BEGIN
 m_BACKSLASH:mg "BACKSLASH" = some t.v_BACKSLASH
 r_BACKSLASH:RelV (.int 92) t.v_BACKSLASH
 m_ROW_END:mg "ROW_END" = some t.v_ROW_END
 r_ROW_END:RelV (.int 93) t.v_ROW_END
 m_FIELDS_BEGIN:mg "FIELDS_BEGIN" = some t.v_FIELDS_BEGIN
 r_FIELDS_BEGIN:RelV (.int 123) t.v_FIELDS_BEGIN
 m_FIELDS_END:mg "FIELDS_END" = some t.v_FIELDS_END
 r_FIELDS_END:RelV (.int 125) t.v_FIELDS_END
 m_WHITE:mg "WHITE" = some (.ref t.v_WHITE)
 r_WHITE:RelV (.ref t.v_WHITE) (.ref t.v_WHITE)
 q_WHITE:∀ H,SqT K H t.v_WHITE [.int 9,.int 10,.int 13,.int 32]
noncomputable def dP(t:Adr)(c:String):Option Addr:=none
section
variable{P:Program}{w:World}{K:PySem.W.Frag}{mg:Str->Option Value}{base:Heap}{t:Adr}
theorem tV(T:Txt K mg t):cT P w K mg base (CXE P w) 1 t.fB t.d_law_cell j4 (spP K (dP t) fB):=
 iA T.jC.F tH fun _ _ _ _ _ _ hr=>⟨_,(aj (bD (bW (qv 0) (fun _=>rfl)) (aw (bc (qi bb (qv 0) (ax aR (qv 1) (nC T.n_len (qv 0)))))) aT)
   (aw (bc aa))),
  (au (bB (dg ah) (bu (aq jT ah (aq aQ ah (fE vc ah)))) aV)
    (bu ae))⟩
theorem eB(T:Txt K mg t):cT P w K mg base (CXE P w) 2 t.ck t.d_law_mix mB (spP K (dP t) ck):=
 iA T.bL.F lZ fun _ _ _ _ _ _ hr=>⟨_,(aj (qz 2 lZ.nd (ax aR (ax bP (qx (tV T) T.jC hr aS (af (qv 0) (af (qv 1) av))) (ax n4 aa (ax bP (qv 1) aa))) aa))
   (aj (qz 2 lZ.nd (ax aR (ax n4 (qv 2) aa) aa))
   (aw (bc (ax aR (ax bP (ax n4 (ax aZ (qv 2) aa) aa) (qv 2)) aa))))),
  (au (aC (aq aQ (aq bM (aO (ai ah (ai ah az))) (aq nJ ae (aq bM ah ae))) ae))
    (au (aC (aq aQ (aq nJ ah ae) ae))
    (bu (aq aQ (aq bM (aq nJ (aq ba ah ae) ae) ah) ae))))⟩
theorem mZ(T:Txt K mg t):cT P w K mg base (CXE P w) 1 t.bT t.d_law_close jQ (spI K (dP t) bT):=
 Cd T.e_law_close.F js fun _ _ _ _ _ _ hr=>⟨_,(aj (qz 3 js.nd (D7 PySem.F.plainAttrs_list PySem.F.slot_list_pop PySem.F.type_list_pop Ea (qv 2)))
   (aj (qap aW (qv 0) (jm (by exact(cQ cb (qi bb (qv 3) aa) b5)) aa aa))
   (aj (sT (nC T.n_len (qv 0)) (so (qi bb (qv 1) (qi bb (qv 3) aa)) aa set_list))
   (aj (sT (nC T.n_len (qv 1)) (so (qi bb (qv 1) (qi bb (qv 3) aa)) aa set_list))
   (aj (qz 4 js.nd (cG (af (qi bb (qv 3) aa) (af (dD gv rfl T.n_tuple L2.E.boot_tuple (af (qi bb (qv 3) aa) av)) av))))
   (aj (bD (bW (qv 2) (fun _=>rfl)) (aj (qap aW (qi bb (qi bb (qv 2) (ku hE aa)) aa) (jm (by exact(cQ cb (qi bb (qi bb (qv 2) (ku hE aa)) aa) b5)) (qv 4) (cG (af (qi bb (qv 3) aa) (af (qv 4) av)))))
   (aw (bD (cQ cb (qi bb (qi bb (qv 2) (ku hE aa)) aa) b5) (aw (sT (nC T.n_len (qv 1)) (so (qi bb (qv 1) (ax pA (qi bb (qv 3) aa) aa)) aa set_list))) aT))) aT)
   (aw (bc (qv 4))))))))),
  (au (oW (AJ aH))
    (au (cD aH (jb (qE (aI (aq b8 (fo (fX aH ae)) b0)) ae ae)))
    (au (oQ (fX aH (fo (fX aH ae))) ae (jb (gr aH)))
    (au (oQ (fX aH (fo (fX aH ae))) ae (jb (gr aH)))
    (au (aC (cH (ai (fo (fX aH ae)) (ai (fE sE (fo (fX aH ae))) az))))
    (au (bB (fI aH) (au (cD (fX (fX aH (kd g9 ae)) ae) (jb (qE (aI (aq b8 (fo (fX (fX aH (kd g9 ae)) ae)) b0)) ah (cH (ai (fo (fX aH ae)) (ai ah az))))))
    (bB (aI (aq b8 (fo (fX (fX aH (kd g9 ae)) ae)) b0)) (oQ (fX aH (aq pS (fo (fX aH ae)) ae)) ae (jb (gr aH))) aV)) aV)
    jh))))))⟩
theorem eP(T:Txt K mg t):cT P w K mg base (CXE P w) 1 t.bO t.d_law_white ju (spP K (dP t) bO):=
 iA T.cm.F rS fun _ _ _ _ _ _ hr=>⟨_,(aj (bD (cQ wC (ax aR (qv 0) aa) aa) (aw (bc (bJ av))) aT)
   (aw (bc (kY (M:=["_law_number_here"]) (ι:=[0]) (x:="_law_k") ⟨rfl,rfl,rfl,rfl,rfl,rfl,rfl,rfl,rfl,rfl,rfl,by decide +kernel⟩ rfl (fH rfl T.n_range (af (ax bP (ax aR (ax aZ (qv 0) aa) aa) aa) av)) fun _ _ _ _=>(qi bb (bJ (af aa (af aa (af aa (af aa av))))) (ax aR (ax aZ (ax aZ (qv 0) aa) (ax bP aa (ax n4 aa (qv 1)))) aa)))))),
  (au (bB (aI (aq wG (aq aQ ah ae) ae)) (bu (bN az)) aV)
    (bu (pR (by decide) (aq bM (aq aQ (aq ba ah ae) ae) ae) (aq jT (bN (ai ae (ai ae (ai ae (ai ae az))))) (aq aQ (aq ba (aq ba ah ae) (aq bM ae (aq nJ ae ah))) ae)))))⟩
theorem sO(T:Txt K mg t):cT P w K mg base (CXE P w) 1 t.b9 t.d_law_point jU (spP K (dP t) b9):=
 iA T.iE.F jv fun _ _ _ _ _ _ hr=>⟨_,(aj (qz 1 jv.nd (ax aR (qv 0) aa))
   (aj (qz 2 jv.nd (ax aZ (qv 0) aa))
   (aj (bD (cQ pd (qv 1) aa) (aw (bc (ax bP aa (ax aR (qv 2) aa)))) aT)
   (aj (bD (cQ pd (qv 1) aa) (aw (bc (qi bb (bJ (af aa (af aa (af aa (af aa (af aa (af aa (af aa (af aa (af aa (af aa (af aa av)))))))))))) (ax aR (qv 2) aa)))) aT)
   (aj (bD (cQ cb (qv 1) aa) (aw (bc (ax bP aa (ax aR (qv 2) aa)))) aT)
   (aj (bD (cQ cb (qv 1) aa) (aw (bc (ax bP aa (ax aR (qv 2) aa)))) aT)
   (aj (bD (cQ cb (qv 1) aa) (aw (bc (ax bP aa (ax aR (qv 2) aa)))) aT)
   (aw (bc (ax bP aa (ax aR (qv 2) aa))))))))))),
  (au (aC (aq aQ ah ae))
    (au (aC (aq ba ah ae))
    (au (bB (aI (aq pz ah ae)) (bu (aq bM ae (aq aQ ah ae))) aV)
    (au (bB (aI (aq pz ah ae)) (bu (aq jT (bN (ai ae (ai ae (ai ae (ai ae (ai ae (ai ae (ai ae (ai ae (ai ae (ai ae (ai ae az)))))))))))) (aq aQ ah ae))) aV)
    (au (bB (aI (aq b8 ah ae)) (bu (aq bM ae (aq aQ ah ae))) aV)
    (au (bB (aI (aq b8 ah ae)) (bu (aq bM ae (aq aQ ah ae))) aV)
    (au (bB (aI (aq b8 ah ae)) (bu (aq bM ae (aq aQ ah ae))) aV)
    (bu (aq bM ae (aq aQ ah ae))))))))))⟩
theorem lC(T:Txt K mg t):cT P w K mg base (CXE P w) 3 t.cu t.d_law_points i2 (spP K (dP t) cu):=
 iA T.eM.F gi fun _ _ _ _ _ _ hr=>⟨_,(aj (qz 2 gi.nd (qx (eB T) T.bL hr aS (af (qv 0) (af (qv 1) av))))
   (aj (qz 3 gi.nd (ax aR (qv 2) aa))
   (aj (bD (cQ cb (ax aR (ax aZ (qv 2) aa) aa) aa) (aw (qz 3 gi.nd (ax aR (ax aZ (qv 2) aa) aa))) aT)
   (aw (bc (kY (M:=["_law_script","_law_k"]) (ι:=[0,1]) (x:="_law_j") ⟨rfl,rfl,rfl,rfl,rfl,rfl,rfl,rfl,rfl,rfl,rfl,by decide +kernel⟩ rfl (fH rfl T.n_range (af (qv 3) av)) fun _ _ _ _=>(qx (sO T) T.iE hr rB (af (qx (eB T) T.bL hr rB (af (qv 0) (af (ax bP (ax bP (qv 1) aa) (qv 2)) av))) av)))))))),
  (au (aC (aO (ai ah (ai ah az))))
    (au (aC (aq aQ ah ae))
    (au (bB (aI (aq b8 (aq aQ (aq ba ah ae) ae) ae)) (aC (aq aQ (aq ba ah ae) ae)) aV)
    (bu (pR (by decide) ah (aO (ai (aO (ai ah (ai (aq bM (aq bM ah ae) ah) az))) az)))))))⟩
theorem tq(T:Txt K mg t):cT P w K mg base (CXE P w) 4 t.eD t.d_law_name kL (spP K (dP t) eD):=
 iA T.jK.F ug fun _ _ _ _ _ _ hr=>⟨_,(aj (bD (cQ cb (ax aR (qv 1) aa) aa) (aw (bc (bJ (af (ax bP aa (ax aR (ax aZ (qv 1) aa) aa)) av)))) aT)
   (aw (bc (qx (lC T) T.eM hr aS (af (qv 0) (af (ax bP aa (ax aR (ax aZ (qv 1) aa) aa)) av)))))),
  (au (bB (aI (aq b8 (aq aQ ah ae) ae)) (bu (bN (ai (aq bM ae (aq aQ (aq ba ah ae) ae)) az))) aV)
    (bu (aO (ai ah (ai (aq bM ae (aq aQ (aq ba ah ae) ae)) az)))))⟩
theorem rO(T:Txt K mg t):cT P w K mg base (CXE P w) 1 t.cA t.d_law_eight jO (spP K (dP t) cA):=
 iA T.iD.F eI fun _ _ _ _ _ _ hr=>⟨_,(aj (bD (cQ pd (qv 0) aa) (aw (bc (bJ (af (qv 0) av)))) aT)
   (aj (qz 1 eI.nd (ax bP (ax bP aa (dD qO rfl T.n_int L2.E.boot_int (af (dv yn (qv 0) aa (fD _)) av))) (dD qO rfl T.n_int L2.E.boot_int (af (dv yn (qv 0) aa (fD _)) av))))
   (aj (qz 2 eI.nd (bJ av))
   (aj (ig eE rfl (fH rfl T.n_range (af (qv 1) av)) (fj (i:=3) eI.nd rfl (by first|exact Or.inl rfl|exact Or.inr rfl)) (aj (qz 2 eI.nd (ax gw (bJ (af (ax bP aa (ax aR (qv 0) aa)) av)) (qv 2)))
   (aw (qz 0 eI.nd (ax aZ (qv 0) aa)))))
   (aw (bc (ax gw (bJ (af (ax bP (qi bb (bJ (af aa (af aa (af aa av)))) (ax pA (qv 1) aa)) (qv 0)) av)) (qv 2)))))))),
  (au (bB (aI (aq pz ah ae)) (bu (bN (ai ah az))) aV)
    (au (aC (aq bM (aq bM ae (fE vN (aq yr ah ae))) (fE vN (aq yr ah ae))))
    (au (aC (bN az))
    (au (nv ah (au (aC (aq iW (bN (ai (aq bM ae (aq aQ ah ae)) az)) ah))
    (aC (aq ba ah ae))))
    (bu (aq iW (bN (ai (aq bM (aq jT (bN (ai ae (ai ae (ai ae az)))) (aq pS ah ae)) ah) az)) ah))))))⟩
theorem mz(T:Txt K mg t):cT P w K mg base (CXE P w) 1 t.eQ t.d_law_hex mE (spP K (dP t) eQ):=
 iA T.fY.F fF fun _ _ _ _ _ _ hr=>⟨_,(aj (qz 2 fF.nd (bJ av))
   (aj (ig eE rfl (fH rfl T.n_range (af aa av)) (fj (i:=3) fF.nd rfl (by first|exact Or.inl rfl|exact Or.inr rfl)) (aj (qz 4 fF.nd (ax aR (qv 0) aa))
   (aj (bD (cQ pd (qv 4) aa) (aw (qz 2 fF.nd (ax gw (bJ (af (ax bP aa (qv 4)) av)) (qv 2)))) (aw (qz 2 fF.nd (ax gw (bJ (af (ax bP (jm (by exact(bW (qv 1) (fun _=>rfl))) aa aa) (qv 4)) av)) (qv 2)))))
   (aw (qz 0 fF.nd (ax aZ (qv 0) aa))))))
   (aw (bc (ax gw (bJ (af aa (af aa av))) (qv 2)))))),
  (au (aC (bN az))
    (au (nv ae (au (aC (aq aQ ah ae))
    (au (bB (aI (aq pz ah ae)) (aC (aq iW (bN (ai (aq bM ae ah) az)) ah)) (aC (aq iW (bN (ai (aq bM (qE (dg ah) ae ae) ah) az)) ah)))
    (aC (aq ba ah ae)))))
    (bu (aq iW (bN (ai ae (ai ae az))) ah))))⟩
theorem tL(T:Txt K mg t):cT P w K mg base (CXE P w) 2 t.fz t.d_law_sign kq (spP K (dP t) fz):=
 iA T.jW.F iM fun _ _ _ _ _ _ hr=>⟨_,(aj (qz 2 iM.nd (BG (gG aa aa (gG aa aa (gG aa aa (gG aa aa (gG aa aa (gG aa aa (gG aa aa (gG aa aa AL))))))))))
   (aj (qz 3 iM.nd (ax aR (qv 1) aa))
   (aj (bD (j0 (iw (cQ cb (qv 3) aa) (gR (DP (uf hr) (qv 0) (qv 2))))) (aw (bc (bJ (af aa (af (Bg (uf hr) (qv 2) (qv 0) (fun _ _=>rfl)) av))))) aT)
   (aj (bD (j0 (iw (cQ wC (qv 3) aa) (iw (cQ yn (qv 0) aa) (iw (cQ wm (qv 0) aa) (gR (cQ wm (qv 0) aa)))))) (aw (bc (qx (rO T) T.iD hr aS (af (qv 0) av)))) aT)
   (aj (bD (cQ pd (qv 0) aa) (aw (bc (qx (mz T) T.fY hr aS (af (qv 0) (af (dv cb (qv 3) aa (fD _)) av))))) aT)
   (aj (qz 4 iM.nd (ax pA (qv 0) aa))
   (aw (bc (ax gw (qx (mz T) T.fY hr aS (af (ax bP aa (ax aZ (qv 4) aa)) (af (dv cb (qv 3) aa (fD _)) av))) (qx (mz T) T.fY hr aS (af (ax bP aa (ax aR (qv 4) aa)) (af (dv cb (qv 3) aa (fD _)) av)))))))))))),
  (au (nu (D2 (kvs:=[(34,34),(92,92),(47,47),(8,98),(12,102),(10,110),(13,114),(9,116)]) (by decide) (by decide)))
    (au (aC (aq aQ ah ae))
    (au (bB (ik (aI (aq b8 ah ae)) (aI (AO ah aH))) (bu (bN (ai ae (ai (BB aH ah) az)))) aV)
    (au (bB (ik (aI (aq wG ah ae)) (ik (aI (aq yr ah ae)) (ik (aI (aq wD ah ae)) (aI (aq wD ah ae))))) (bu (aO (ai ah az))) aV)
    (au (bB (aI (aq pz ah ae)) (bu (aO (ai ah (ai (aq b8 ah ae) az)))) aV)
    (au (aC (aq pS ah ae))
    (bu (aq iW (aO (ai (aq bM ae (aq ba ah ae)) (ai (aq b8 ah ae) az))) (aO (ai (aq bM ae (aq aQ ah ae)) (ai (aq b8 ah ae) az)))))))))))⟩
theorem oj(T:Txt K mg t):cT P w K mg base (CXE P w) 3 t.dn t.d_law_text j6 (spP K (dP t) dn):=
 iA T.gd.F fG fun _ _ _ _ _ _ hr=>⟨_,(aj (qz 2 fG.nd (bJ (af aa av)))
   (aj (qz 3 fG.nd aa)
   (aj (ig eE rfl (gj (qv 0)) (fj (i:=4) fG.nd rfl (by first|exact Or.inl rfl|exact Or.inr rfl)) (aj (qz 2 fG.nd (ax gw (qv 2) (qx (tL T) T.jW hr aS (af (qv 4) (af (ax bP (ax aZ (qv 1) (ax bP aa (ax aR (qv 3) aa))) (qv 3)) av)))))
   (aw (qz 3 fG.nd (ax bP (qv 3) aa)))))
   (aw (bc (ax gw (qv 2) (bJ (af aa av)))))))),
  (au (aC (bN (ai ae az)))
    (au (aC ae)
    (au (m6 ah (au (aC (aq iW ah (aO (ai ah (ai (aq bM (aq ba ah (aq bM ae (aq aQ ah ae))) ah) az)))))
    (aC (aq bM ah ae))))
    (bu (aq iW ah (bN (ai ae az)))))))⟩
theorem sC(T:Txt K mg t):cT P w K mg base (CXE P w) 5 t.dm t.d_law_begin jB (spI K (dP t) dm):=
 Cd T.e_law_begin.F fV fun _ _ _ _ _ _ hr=>⟨_,(aj (qex dW (qv 1) (qx (eP T) T.cm hr aS (af (ax aZ (qv 4) aa) av)))
   (aj (qz 5 fV.nd (cG av))
   (aj (bD (j0 (iw (bW (qv 3) (fun _=>rfl)) (gR (bW (qi bb (qi bb (qv 3) (ku hE aa)) aa) (fun _=>rfl))))) (aj (qap aW (qv 1) aa)
   (aw (qex dW (qv 1) (qx (eP T) T.cm hr aS (af (ax aZ (qv 4) aa) av))))) aT)
   (aj (bD (j0 (iw (bW (qv 3) (fun _=>rfl)) (gR (cQ cb (qi bb (qi bb (qv 3) (ku hE aa)) aa) b5)))) (aj (qz 6 fV.nd (qx (tq T) T.jK hr aS (af (qv 0) (af (ax aZ (qv 4) aa) av))))
   (aj (qz 5 fV.nd (dD gv rfl T.n_tuple L2.E.boot_tuple (af (qv 6) av)))
   (aj (qz 7 fV.nd (nC T.n_len (qv 1)))
   (aj (qex dW (qv 1) (qx (oj T) T.gd hr aS (af (qv 6) (af (ax aZ (qv 4) aa) av))))
   (aj (qap aW (qv 2) (bJ (af b5 (af (qv 7) (af (nC T.n_len (qv 1)) (af aa av))))))
   (aj (qex dW (qv 1) (qx (eP T) T.cm hr aS (af (ax aZ (qv 4) aa) av)))
   (aj (qap aW (qv 1) aa)
   (aw (qex dW (qv 1) (qx (eP T) T.cm hr aS (af (ax aZ (qv 4) aa) av))))))))))) aT)
   (aw (bc (qv 5))))))),
  (au (ee aH (aO (ai (aq ba ah ae) az)))
    (au (aC (cH az))
    (au (bB (ik (fI aH) (dg (fo (fX (fX aH (kd g9 ae)) ae)))) (au (cD aH (jb ae))
    (ee aH (aO (ai (aq ba ah ae) az)))) aV)
    (au (bB (ik (fI aH) (aI (aq b8 (fo (fX (fX aH (kd g9 ae)) ae)) b0))) (au (aC (aO (ai ah (ai (aq ba ah ae) az))))
    (au (aC (fE sE ah))
    (au (aC (gr aH))
    (au (eK (i:=6) (ee aH (aO (ai ah (ai (aq ba ah ae) az)))))
    (au (cD aH (jb (bN (ai b0 (ai ah (ai (gr aH) (ai ae az)))))))
    (au (ee aH (aO (ai (aq ba ah ae) az)))
    (au (cD aH (jb ae))
    (ee aH (aO (ai (aq ba ah ae) az)))))))))) aV)
    jh))))⟩
theorem rZ(T:Txt K mg t):cT P w K mg base (CXE P w) 1 t.cJ t.d_law_plain jq (spP K (dP t) cJ):=
 iA T.e_law_plain.F jr fun _ _ _ _ _ _ hr=>⟨_,(aj (bD (cQ cb (qv 0) aa) (aw (bc (cG (af aa (af aa av))))) aT)
   (aj (tY eE (cQ cb (ax aR (qv 0) aa) aa) (aj (qz 0 jr.nd (ax aZ (qv 0) aa))
   (aw (qz 1 jr.nd (ax bP (qv 1) aa)))))
   (aw (bc (cG (af (qv 0) (af (qv 1) av))))))),
  (au (bB (aI (aq b8 ah ae)) (bu (cH (ai ae (ai ae az)))) aV)
    (au (tm (aI (aq b8 (aq aQ ah ae) ae)) (au (aC (aq ba ah ae))
    (aC (aq bM ah ae))))
    (bu (cH (ai ah (ai ah az))))))⟩
theorem qu(T:Txt K mg t):cT P w K mg base (CXE P w) 2 t.dr t.d_law_number jc (spP K (dP t) dr):=
 iA T.gT.F aP fun _ _ _ _ _ _ hr=>⟨_,(aj (qz 1 aP.nd (dv cb (ax aR (qv 0) aa) aa (fD _)))
   (aj (vH (i:=2) aP.nd rfl (by first|exact Or.inl rfl|exact Or.inr rfl) (M:=[]) (ι:=[]) (x:="_law_sign_here") ⟨rfl,rfl,rfl,rfl,rfl,rfl,rfl,rfl,rfl,rfl,rfl,by decide +kernel⟩ rfl (yS (dD mV rfl T.n_str L2.E.boot_str (af (ax aR (ax aZ (qv 0) aa) aa) av))) fun _ _ _ _=>(dD x8 rfl T.n_int L2.E.boot_int (af (qv 0) av)))
   (aj (qz 3 aP.nd (jm (by exact(bW (qv 1) (fun _=>rfl))) (bJ (af aa av)) (bJ av)))
   (aj (qz 3 aP.nd (ax gw (qv 3) (kY (M:=[]) (ι:=[]) (x:="_law_figure") ⟨rfl,rfl,rfl,rfl,rfl,rfl,rfl,rfl,rfl,rfl,rfl,by decide +kernel⟩ rfl (gj (qv 2)) fun _ _ _ _=>(ax bP aa (qv 0)))))
   (aj (qz 4 aP.nd aa)
   (aj (ig eE rfl (gj (qv 2)) (fj (i:=5) aP.nd rfl (by first|exact Or.inl rfl|exact Or.inr rfl)) (aw (qz 4 aP.nd (ax bP (ax n4 (qv 4) aa) (qv 5)))))
   (aj (qz 6 aP.nd aa)
   (aj (bD (cQ cb (ax aR (ax aZ (qv 0) aa) aa) aa) (aj (qap aW (qv 3) aa)
   (aw (ig eE rfl (gj (yw BN (bJ (af (ax aR (ax aZ (qv 0) aa) aa) (af (ax aR (ax aZ (qv 0) aa) aa) (af aa av)))) Bq (Ay (ax bP aa (ax aR (ax aZ (qv 0) aa) aa))))) (fj (i:=5) aP.nd rfl (by first|exact Or.inl rfl|exact Or.inr rfl)) (aj (qap aW (qv 3) (ax bP aa (qv 5)))
   (aj (qz 4 aP.nd (ax bP (ax n4 (qv 4) aa) (qv 5)))
   (aw (qz 6 aP.nd (ax pA (qv 6) aa)))))))) aT)
   (aj (bD (cQ cb (ax aR (ax aZ (qv 0) aa) aa) aa) (aj (qz 7 aP.nd (ax aR (ax aZ (qv 0) aa) aa))
   (aj (qap aW (qv 3) (qi bb (bJ (af aa (af aa av))) (ax aR (ax aZ (qv 0) aa) aa)))
   (aj (qz 8 aP.nd (dv cb (ax aR (ax aZ (qv 0) aa) aa) aa (fD _)))
   (aj (bD (bW (qv 8) (fun _=>rfl)) (aw (qap aW (qv 3) aa)) (aw (bD (cQ cb (ax aR (ax aZ (qv 0) aa) aa) aa) (aw (qap aW (qv 3) aa)) aT)))
   (aj (bD (cQ cb (ax aR (ax aZ (qv 0) aa) aa) aa) (aw (qap aW (qv 3) aa)) aT)
   (aj (qz 3 aP.nd (ax gw (qv 3) (kY (M:=[]) (ι:=[]) (x:="_law_sign_here") ⟨rfl,rfl,rfl,rfl,rfl,rfl,rfl,rfl,rfl,rfl,rfl,by decide +kernel⟩ rfl (yS (dD mV rfl T.n_str L2.E.boot_str (af (qv 7) av))) fun _ _ _ _=>(ib y4 rfl T.n_ord L2.E.boot_ord (af (qv 0) av)))))
   (aw (qz 6 aP.nd (ax bP (qv 6) (jm (by exact(bW (qv 8) (fun _=>rfl))) (ku hE (qv 7)) (qv 7))))))))))) aT)
   (aj (bD (bW (qv 1) (fun _=>rfl)) (aw (qz 4 aP.nd (ku hE (qv 4)))) aT)
   (aw (bc (cG (af (qv 3) (af (qx (rZ T) T.e_law_plain hr aS (af (qv 4) (af (qv 6) av))) av))))))))))))))),
  (au (aC (aq b8 (aq aQ ah ae) ae))
    (au (aC (uk (by decide) (fE zD (aq aQ (aq ba ah ae) ae)) (fE Bv ah)))
    (au (aC (qE (dg ah) (bN (ai ae az)) (bN az)))
    (au (aC (aq iW ah (pb (by decide) ah (aq bM ae ah))))
    (au (aC ae)
    (au (eK (i:=2) (m6 ah (aC (aq bM (aq nJ ah ae) ah))))
    (au (aC ae)
    (au (bB (aI (aq b8 (aq aQ (aq ba ah ae) ae) ae)) (au (de ae)
    (m6 (CV (bN (ai (aq aQ (aq ba ah ae) ae) (ai (aq aQ (aq ba ah ae) ae) (ai ae az)))) AD (Bz (aq bM ae (aq aQ (aq ba ah ae) ae)))) (au (de (aq bM ae ah))
    (au (aC (aq bM (aq nJ ah ae) ah))
    (aC (aq pS ah ae)))))) aV)
    (au (bB (aI (aq b8 (aq aQ (aq ba ah ae) ae) ae)) (au (aC (aq aQ (aq ba ah ae) ae))
    (au (de (aq jT (bN (ai ae (ai ae az))) (aq aQ (aq ba ah ae) ae)))
    (au (aC (aq b8 (aq aQ (aq ba ah ae) ae) ae))
    (au (bB (dg ah) (de ae) (bB (aI (aq b8 (aq aQ (aq ba ah ae) ae) ae)) (de ae) aV))
    (au (bB (aI (aq b8 (aq aQ (aq ba ah ae) ae) ae)) (de ae) aV)
    (au (aC (aq iW ah (uk (by decide) (fE zD ah) (fE CW ah))))
    (aC (aq bM ah (qE (dg ah) (kd g9 ah) ah))))))))) aV)
    (au (bB (dg ah) (aC (kd g9 ah)) aV)
    (eK (i:=3) (bu (cH (ai ah (ai (aO (ai ah (ai ah az))) az)))))))))))))))⟩
theorem mw(T:Txt K mg t):cT P w K mg base (CXE P w) 4 t.bI t.d_law_plain_value fu (spP K (dP t) bI):=
 iA T.e_law_plain_value.F dq fun _ _ _ _ _ _ hr=>⟨_,(aj (qz 2 dq.nd (ax aR (ax aZ (qv 1) aa) aa))
   (aj (bD (cQ cb (qv 2) aa) (aw (bc (cG (af b5 (af (bJ (af aa (af aa (af aa (af aa av))))) (af uO av)))))) aT)
   (aj (bD (cQ cb (qv 2) aa) (aw (bc (cG (af b5 (af (bJ (af aa (af aa (af aa (af aa av))))) (af gN av)))))) aT)
   (aj (bD (cQ cb (qv 2) aa) (aw (bc (cG (af b5 (af (bJ (af aa (af aa (af aa (af aa (af aa av)))))) (af gN av)))))) aT)
   (aj (bD (cQ cb (qv 2) aa) (aj (qz 3 dq.nd (qx (lC T) T.eM hr aS (af (qv 0) (af (ax bP aa (ax aR (qv 1) aa)) av))))
   (aw (bc (cG (af b5 (af (qx (oj T) T.gd hr aS (af (qv 3) (af (ax aZ (qv 1) aa) av))) (af (cG (af b5 (af (dD gv rfl T.n_tuple L2.E.boot_tuple (af (qv 3) av)) av))) av))))))) aT)
   (aj (qz 4 dq.nd (qx (qu T) T.gT hr aS (af (ax aZ (qv 1) aa) av)))
   (aw (bc (cG (af b5 (af (qi dS (qv 4) aa) (af (cG (af b5 (af (qi dS (qi dS (qv 4) aa) aa) (af (qi dS (qi dS (qv 4) aa) aa) av)))) av)))))))))))),
  (au (aC (aq aQ (aq ba ah ae) ae))
    (au (bB (aI (aq b8 ah ae)) (bu (cH (ai b0 (ai (bN (ai ae (ai ae (ai ae (ai ae az))))) (ai vh az))))) aV)
    (au (bB (aI (aq b8 ah ae)) (bu (cH (ai b0 (ai (bN (ai ae (ai ae (ai ae (ai ae az))))) (ai gO az))))) aV)
    (au (bB (aI (aq b8 ah ae)) (bu (cH (ai b0 (ai (bN (ai ae (ai ae (ai ae (ai ae (ai ae az)))))) (ai gO az))))) aV)
    (au (bB (aI (aq b8 ah ae)) (au (aC (aO (ai ah (ai (aq bM ae (aq aQ ah ae)) az))))
    (eK (i:=3) (bu (cH (ai b0 (ai (aO (ai ah (ai (aq ba ah ae) az))) (ai (cH (ai b0 (ai (fE sE ah) az))) az))))))) aV)
    (au (aC (aO (ai (aq ba ah ae) az)))
    (bu (cH (ai b0 (ai (aq eC ah ae) (ai (cH (ai b0 (ai (aq eC (aq eC ah ae) ae) (ai (aq eC (aq eC ah ae) ae) az)))) az)))))))))))⟩
theorem sy(T:Txt K mg t):cT P w K mg base (CXE P w) 6 t.dU t.d_law_built jH (spP K (dP t) dU):=
 iA T.e_law_built.F bH fun _ _ _ _ _ _ hr=>⟨_,(aj (qz 2 bH.nd (bJ av))
   (aj (qz 3 bH.nd (bJ av))
   (aj (qz 4 bH.nd (bJ av))
   (aj (qz 5 bH.nd uO)
   (aj (ig eE rfl (fH rfl T.n_range (af (qv 1) av)) (fj (i:=6) bH.nd rfl (by first|exact Or.inl rfl|exact Or.inr rfl)) (aj (qz 7 bH.nd (qx (eB T) T.bL hr aS (af (qv 0) (af (qv 6) av))))
   (aw (bD (j0 (iw (bW (qv 4) (fun _=>rfl)) (gR (cQ cb (ax aR (qv 7) aa) aa)))) (aj (qex dW (qv 2) (qx (eP T) T.cm hr aS (af (ax aZ (qv 7) aa) av)))
   (aw (qz 5 bH.nd (qx (mZ T) T.e_law_close hr aS (af (qv 2) (af (qv 3) (af (qv 4) av))))))) (aw (bD (j0 (zp (bW (qv 4) (fun _=>rfl)) (vC (cQ cb (qv 6) aa)))) (aj (qz 8 bH.nd (qx (sC T) T.e_law_begin hr aS (af (qv 0) (af (qv 2) (af (qv 3) (af (qv 4) (af (qv 7) av)))))))
   (aj (qz 9 bH.nd (nC T.n_len (qv 2)))
   (aw (bD (j0 (zp (cQ wC (ax aR (qv 7) aa) aa) (vC (j0 (iw (cQ cb (qv 6) aa) (gR (cQ wC (ax aR (qv 7) aa) aa))))))) (aj (qz 10 bH.nd (qi bb (bJ (af b5 (af b5 av))) (ax aR (ax aZ (qv 7) aa) aa)))
   (aj (qap aW (qv 2) (jm (by exact(cQ cb (qv 10) b5)) aa aa))
   (aj (qap aW (qv 4) (bJ (af (qv 10) (af (bJ av) (af (nC T.n_len (qv 3)) (af (qv 8) av))))))
   (aw (qap aW (qv 3) (bJ (af (qv 10) (af (qv 9) (af aa (af aa av)))))))))) (aj (qz 11 bH.nd (qx (mw T) T.e_law_plain_value hr aS (af (qv 0) (af (qv 7) av))))
   (aj (qex dW (qv 2) (qi dS (qv 11) aa))
   (aj (qap aW (qv 3) (bJ (af (qi dS (qv 11) aa) (af (qv 9) (af (nC T.n_len (qv 2)) (af (ax bP (nC T.n_len (qv 3)) aa) av))))))
   (aj (qz 5 bH.nd (qi dS (qv 11) aa))
   (aw (bD (j0 (iw (bW (qv 4) (fun _=>rfl)) (gR (cQ cb (qi bb (qi bb (qv 4) (ku hE aa)) aa) b5)))) (aj (sT (nC T.n_len (qv 3)) (so (qi bb (qv 3) (ku hE aa)) aa set_list))
   (aw (qap aW (qi bb (qi bb (qv 4) (ku hE aa)) aa) (cG (af (qv 8) (af (qv 5) av)))))) (aw (bD (bW (qv 4) (fun _=>rfl)) (aw (qap aW (qi bb (qi bb (qv 4) (ku hE aa)) aa) (qv 5))) aT)))))))))))) aT))))))
   (aj (tY eE (bW (qv 4) (fun _=>rfl)) (aw (qz 5 bH.nd (qx (mZ T) T.e_law_close hr aS (af (qv 2) (af (qv 3) (af (qv 4) av)))))))
   (aj (qex dW (qv 2) (qx (eP T) T.cm hr aS (af (qx (eB T) T.bL hr aS (af (qv 0) (af aa av))) av)))
   (aw (bc (cG (af (qv 2) (af (kY (M:=[]) (ι:=[]) (x:="_law_node") ⟨rfl,rfl,rfl,rfl,rfl,rfl,rfl,rfl,rfl,rfl,rfl,by decide +kernel⟩ rfl (gj (qv 3)) fun _ _ _ _=>(dD gv rfl T.n_tuple L2.E.boot_tuple (af (qv 0) av))) (af (qv 5) av))))))))))))),
  (au (nu (jb (bN az)))
    (au (nu (jb (bN az)))
    (au (nu (jb (bN az)))
    (au (aC vh)
    (au (nv ah (au (aC (aO (ai ah (ai ah az))))
    (bB (ik (fI aH) (aI (aq b8 (aq aQ ah ae) ae))) (au (ee aH (aO (ai (aq ba ah ae) az)))
    (oW (p8 rfl (dR (mS aH) (dR (mS aH) (dR (mS aH) rK)))))) (bB (Af (fI aH) (aI (aq b8 ah ae))) (au (oW (p8 rfl (dR (B5 (W:=fun _ _ _ _=>False) ah) (dR (mS aH) (dR (mS aH) (dR (mS aH) (dR (B5 (W:=fun _ _ _ _=>False) ah) rK)))))))
    (au (aC (gr aH))
    (bB (Af (aI (aq wG (aq aQ ah ae) ae)) (ik (aI (aq b8 ah ae)) (aI (aq wG (aq aQ ah ae) ae)))) (au (aC (aq jT (bN (ai b0 (ai b0 az))) (aq aQ (aq ba ah ae) ae)))
    (au (cD aH (jb (qE (aI (aq b8 ah b0)) ae ae)))
    (au (cD aH (Ei (mY (jb ah) (mY (jb (bN az)) (mY (jb (gr aH)) (mY (jb ah) BJ))))))
    (cD aH (jb (bN (ai ah (ai ah (ai ae (ai ae az)))))))))) (au (aC (aO (ai ah (ai ah az))))
    (au (ee aH (aq eC ah ae))
    (au (cD aH (jb (bN (ai (aq eC ah ae) (ai ah (ai (gr aH) (ai (aq bM (gr aH) ae) az)))))))
    (au (aC (aq eC ah ae))
    (bB (ik (fI aH) (aI (aq b8 (fo (fX (fX aH (kd g9 ae)) ae)) b0))) (au (oQ (fX aH (kd g9 ae)) ae (jb (gr aH)))
    (cD (fX (fX aH (kd g9 ae)) ae) (jb (cH (ai ah (ai ah az)))))) (bB (fI aH) (cD (fX (fX aH (kd g9 ae)) ae) (jb ah)) aV))))))))) aV))))
    (au (tm (fI aH) (oW (p8 rfl (dR (mS aH) (dR (mS aH) (dR (mS aH) rK))))))
    (au (ee aH (aO (ai (aO (ai ah (ai ae az))) az)))
    (mj (i:=3) (mj (i:=2) (bu (cH (ai ah (ai (pb (by decide) ah (fE sE ah)) (ai ah az))))))))))))))⟩
theorem uh(T:Txt K mg t):cT P w K mg base (CXE P w) 1 t.fA t.d_is_white kj (spP K (dP t) fA):=
 iA T.ft.F uF fun _ _ _ _ _ _ hr=>⟨_,(aw (bc (dv kJ (qv 0) (fP rfl T.m_WHITE T.r_WHITE) rfl))),
  (bu (aq (oq hr.units) ah (BF T.q_WHITE)))⟩
theorem oJ(T:Txt K mg t):cT P w K mg base (CXE P w) 2 t.bY t.d_outside_sort gM (spP K (dP t) bY):=
 iA T.e_outside_sort.F oG fun _ _ _ _ _ _ hr=>⟨_,(aj (bD (bW (qx (uh T) T.ft hr aS (af (qv 0) av)) (fun _=>rfl)) (aw (bc b5)) aT)
   (aj (bD (cQ cb (qv 0) (fP rfl T.m_QUOTE T.r_QUOTE)) (aw (bc b5)) aT)
   (aj (bD (iK kJ (qv 0) (cG (af (fP rfl T.m_COMMA T.r_COMMA) (af (fP rfl T.m_COLON T.r_COLON) (af (fP rfl T.m_ROW_BEGIN T.r_ROW_BEGIN) (af (fP rfl T.m_ROW_END T.r_ROW_END) (af (fP rfl T.m_FIELDS_BEGIN T.r_FIELDS_BEGIN) (af (fP rfl T.m_FIELDS_END T.r_FIELDS_END) av))))))) rfl) (aw (bc b5)) aT)
   (aw (bc b5))))),
  (au (bB (dg (aO (ai ah az))) (bu b0) aV)
    (au (bB (aI (aq b8 ah ae)) (bu b0) aV)
    (au (bB (aI (aq (oq hr.units) ah (cH (ai ae (ai ae (ai ae (ai ae (ai ae (ai ae az))))))))) (bu b0) aV)
    (bu b0))))⟩
theorem yB(T:Txt K mg t):cT P w K mg base (CXE P w) 3 t.iN t.d_sorts pI (spP K (dP t) iN):=
 iA T.o5.F gC fun _ _ _ _ _ _ hr=>⟨_,(aj (qz 1 gC.nd (bJ av))
   (aj (qz 2 gC.nd gN)
   (aj (qz 3 gC.nd gN)
   (aj (ig eE rfl (gj (qv 0)) (fj (i:=4) gC.nd rfl (by first|exact Or.inl rfl|exact Or.inr rfl)) (aw (bD (u2 (bW (qv 2) (fun _=>rfl))) (aj (qap aW (qv 1) (qx (oJ T) T.e_outside_sort hr aS (af (qv 4) av)))
   (aw (qz 2 gC.nd (dv cb (qv 4) (fP rfl T.m_QUOTE T.r_QUOTE) (fD _))))) (aj (qap aW (qv 1) b5)
   (aj (qz 2 gC.nd (F4 (qv 3) (nP (dv wm (qv 4) (fP rfl T.m_QUOTE T.r_QUOTE) (fD _)))))
   (aw (qz 3 gC.nd (nK (dv cb (qv 4) (fP rfl T.m_BACKSLASH T.r_BACKSLASH) (fD _)) (nP (yM (qv 3)))))))))))
   (aw (bc (qv 1))))))),
  (au (aC (bN az))
    (au (aC gO)
    (au (aC gO)
    (au (m6 ah (bB (vj (dg ah)) (au (de (aO (ai ah az)))
    (aC (aq b8 ah ae))) (au (de b0)
    (au (aC (Fy ah (aq wD ah ae)))
    (aC (n6 (aq b8 ah ae) (Ag ah)))))))
    jh))))⟩
theorem tX(T:Txt K mg t):cT P w K mg base (CXE P w) 4 t.iB t.d_marks pL (spP K (dP t) iB):=
 iA T.kU.F jf fun _ _ _ _ _ _ hr=>⟨_,(aj (qz 1 jf.nd (bJ av))
   (aj (qz 2 jf.nd uO)
   (aj (ig eE rfl (Bl rfl T.n_enumerate (af (qx (yB T) T.o5 hr aS (af (qv 0) av)) av)) (EN rfl (tu (fj (i:=3) jf.nd rfl (by first|exact Or.inl rfl|exact Or.inr rfl)) (tu (fj (i:=4) jf.nd rfl (by first|exact Or.inl rfl|exact Or.inr rfl)) Bo))) (aj (bD (j0 (zp (iK kJ (qv 4) (cG (af b5 (af b5 av))) rfl) (vC (j0 (iw (cQ cb (qv 4) b5) (gR (cQ wm (qv 2) b5))))))) (aw (qap aW (qv 1) (qv 3))) aT)
   (aw (qz 2 jf.nd (qv 4)))))
   (aw (bc (qv 1)))))),
  (au (aC (bN az))
    (au (aC vh)
    (au (AF (aO (ai ah az)) (au (bB (Af (aI (aq (oq hr.units) ah (cH (ai b0 (ai b0 az))))) (ik (aI (aq b8 ah b0)) (aI (aq wD ah b0)))) (de ah) aV)
    (aC ah)))
    jh)))⟩
theorem rz(T:Txt K mg t):cT P w K mg base (CXE P w) 1 t.dY t.d_law_whole jy (spP K (dP t) dY):=
 iA T.iQ.F rQ fun _ _ _ _ _ _ hr=>⟨_,(aw (bc (nK (ib qk rfl T.n_isinstance L2.E.boot_isinstance (af (qv 0) (af (rF (v:=.ty _) rfl T.n_int L2.E.boot_int rfl) av))) (nP (yM (ib qk rfl T.n_isinstance L2.E.boot_isinstance (af (qv 0) (af (rF (v:=.ty _) rfl T.n_bool L2.E.boot_bool rfl) av)))))))),
  (bu (n6 (u4 ah) (Ag (u4 ah))))⟩
theorem lO(T:Txt K mg t):cT P w K mg base (CXE P w) 2 t.cx t.d_law_wholes iV (spP K (dP t) cx):=
 iA T.eN.F qp fun _ _ _ _ _ _ hr=>⟨_,(aw (bc (nK (ib qk rfl T.n_isinstance L2.E.boot_isinstance (af (qv 0) (af (rF (v:=.ty _) rfl T.n_list L2.E.boot_list rfl) av))) (nP (ib xV rfl T.n_all L2.E.boot_all (af (kY (M:=[]) (ι:=[]) (x:="_law_one") ⟨rfl,rfl,rfl,rfl,rfl,rfl,rfl,rfl,rfl,rfl,rfl,by decide +kernel⟩ rfl (gj (qv 0)) fun _ _ _ _=>(qx (rz T) T.iQ hr rB (af (qv 0) av))) av)))))),
  (bu (n6 (u4 ah) (fE (DZ hr.hd) (pb (by decide) ah (aO (ai ah az))))))⟩
theorem qr(T:Txt K mg t):cT P w K mg base (CXE P w) 1 t.du t.d_law_walked i8 (spP K (dP t) du):=
 iA T.e_law_walked.F bt fun _ _ _ _ _ _ hr=>⟨_,(aj (qz 1 bt.nd (bJ av))
   (aj (qz 2 bt.nd gN)
   (aj (qz 3 bt.nd gN)
   (aj (qz 4 bt.nd gN)
   (aj (ig eE rfl (fH rfl T.n_range (af (nC T.n_len (qv 0)) av)) (fj (i:=5) bt.nd rfl (by first|exact Or.inl rfl|exact Or.inr rfl)) (aj (qz 6 bt.nd (qi bb (qv 0) (qv 5)))
   (aw (bD (bW (qv 2) (fun _=>rfl)) (aw (bD (bW (qv 3) (fun _=>rfl)) (aw (qz 3 bt.nd gN)) (aw (bD (cQ cb (qv 6) aa) (aw (qz 3 bt.nd gN)) (aw (bD (cQ cb (qv 6) aa) (aw (qz 2 bt.nd gN)) aT)))))) (aw (bD (iK kJ (qv 6) (cG (af aa (af aa (af aa (af aa (af aa (af aa (af aa av)))))))) rfl) (aj (qap aW (qv 1) (qv 5))
   (aj (qz 2 bt.nd (dv cb (qv 6) aa (fD _)))
   (aw (qz 4 bt.nd gN)))) (aw (bD (iK kJ (qv 6) (cG (af aa (af aa (af aa (af aa av))))) rfl) (aw (qz 4 bt.nd gN)) (aj (bD (u2 (bW (qv 4) (fun _=>rfl))) (aw (qap aW (qv 1) (qv 5))) aT)
   (aw (qz 4 bt.nd gN)))))))))))
   (aw (bc (qv 1)))))))),
  (au (aC (bN az))
    (au (aC gO)
    (au (aC gO)
    (au (aC gO)
    (au (nv (fE vc ah) (au (aC (aq jT ah ah))
    (bB (dg ah) (bB (dg ah) (aC gO) (bB (aI (aq b8 ah ae)) (aC gO) (bB (aI (aq b8 ah ae)) (aC gO) aV))) (bB (aI (aq (oq hr.units) ah (cH (ai ae (ai ae (ai ae (ai ae (ai ae (ai ae (ai ae az)))))))))) (au (de ah)
    (au (aC (aq b8 ah ae))
    (aC gO))) (bB (aI (aq (oq hr.units) ah (cH (ai ae (ai ae (ai ae (ai ae az))))))) (aC gO) (au (bB (vj (dg ah)) (de ah) aV)
    (aC gO)))))))
    jh)))))⟩
theorem EY(T:Txt K mg t):cT P w K mg base (CXE P w) 7 t.qA t.d_law uU (spP K (dP t) qA):=
 iA T.zl.F gL fun _ _ _ _ _ _ hr=>⟨_,(aj (qz 1 gL.nd (qx (sy T) T.e_law_built hr aS (af (qv 0) (af (ax bP aa (ax aR (qx (eB T) T.bL hr aS (af (qv 0) (af aa av))) aa)) av))))
   (aj (qz 2 gL.nd (qi dS (qv 1) aa))
   (aj (bD (cQ cb (ax aR (qx (eB T) T.bL hr aS (af (qv 0) (af aa av))) aa) aa) (aj (qz 3 gL.nd Aa)
   (aj (ig eE rfl (gj (qi dS (qv 1) aa)) (fj (i:=4) gL.nd rfl (by first|exact Or.inl rfl|exact Or.inr rfl)) (aj (sP (uf hr) (qv 3) (qi dS (qv 4) aa) gN)
   (aw (bD (iK kJ (qi dS (qv 4) aa) (cG (af b5 (af b5 av))) rfl) (aw (sP (uf hr) (qv 3) (ax pA (qi dS (qv 4) aa) aa) gN)) aT))))
   (aj (xX (i:=5) gL.nd rfl (by first|exact Or.inl rfl|exact Or.inr rfl) (M:=[]) (ι:=[]) (x:="_law_node") ⟨rfl,rfl,rfl,rfl,rfl,rfl,rfl,rfl,rfl,rfl,rfl,by decide +kernel⟩ rfl (gj (qi dS (qv 1) aa)) (fun _ _ _ _=>(iK kJ (qi dS (qv 0) aa) (cG (af b5 (af b5 av))) rfl)) fun _ _ _ _=>(qv 0))
   (aj (ig eE rfl (fH rfl T.n_range (af (nC T.n_len (qv 2)) av)) (fj (i:=6) gL.nd rfl (by first|exact Or.inl rfl|exact Or.inr rfl)) (aw (bD (j0 (iw (iK kJ (qi bb (qv 2) (qv 6)) (cG (af aa (af aa av))) rfl) (gR (u2 (bW (xc (M:=["_law_at"]) (ι:=[6]) (x:="_law_node") ⟨rfl,rfl,rfl,rfl,rfl,rfl,rfl,rfl,rfl,rfl,rfl,by decide +kernel⟩ rfl (gj (qv 5)) (fun _ _ _ _=>(zT pd pd (qi dS (qv 1) aa) (qv 0) (qi dS (qv 1) aa))) fun _ _ _ _=>(qv 1)) (fun _=>rfl)))))) (aw (sP (uf hr) (qv 3) (qv 6) gN)) aT)))
   (aj (qz 7 gL.nd (qx (tX T) T.kU hr aS (af (qv 2) av)))
   (aw (bc (nK (qx (lO T) T.eN hr aS (af (qv 7) av)) (nP (dv vz (qv 7) (ib u9 rfl T.n_sorted boot_sorted (af (qv 3) av)) (fD _))))))))))) aT)
   (aj (qz 8 gL.nd (bJ (af aa (af aa (af aa (af aa (af aa (af aa (af aa (af aa (af aa (af aa (af aa (af aa (af aa (af aa (af aa (af aa (af aa (af aa (af aa (af aa av))))))))))))))))))))))
   (aj (vH (i:=2) gL.nd rfl (by first|exact Or.inl rfl|exact Or.inr rfl) (M:=["_law_script","_law_menu"]) (ι:=[0,8]) (x:="_law_k") ⟨rfl,rfl,rfl,rfl,rfl,rfl,rfl,rfl,rfl,rfl,rfl,by decide +kernel⟩ rfl (fH rfl T.n_range (af (ax aR (qx (eB T) T.bL hr aS (af (qv 0) (af aa av))) aa) av)) fun _ _ _ _=>(qi bb (qv 1) (ax aR (qx (eB T) T.bL hr rB (af (qv 0) (af (qv 2) av))) aa)))
   (aj (qz 9 gL.nd (dD sM rfl T.n_list L2.E.boot_list (af (qv 2) av)))
   (aj (qz 7 gL.nd (qx (tX T) T.kU hr aS (af (qv 9) av)))
   (aw (bc (nK (qx (lO T) T.eN hr aS (af (qv 7) av)) (nK (dv vz (qv 7) (qx (qr T) T.e_law_walked hr aS (af (qv 2) av)) (fD _)) (nP (dv vz (qv 9) (qv 2) (fD _)))))))))))))),
  (au (aC (aO (ai ah (ai (aq bM ae (aq aQ (aO (ai ah (ai ae az))) ae)) az))))
    (au (aC (aq eC ah ae))
    (au (bB (aI (aq b8 (aq aQ (aO (ai ah (ai ae az))) ae) ae)) (au (nu EM)
    (au (m6 (aq eC ah ae) (au (pT aH (aq eC ah ae) gO)
    (bB (aI (aq (oq hr.units) (aq eC ah ae) (cH (ai b0 (ai b0 az))))) (pT aH (aq pS (aq eC ah ae) ae) gO) aV)))
    (au (aC (pQ (by decide) (aq eC ah ae) (aI (aq (oq hr.units) (aq eC ah ae) (cH (ai b0 (ai b0 az))))) ah))
    (au (nv (fE vc ah) (bB (ik (aI (aq (oq hr.units) (aq jT ah ah) (cH (ai ae (ai ae az))))) (vj (dg (pQ (by decide) ah (aI (yU pz pz (aq eC ah ae) ah (aq eC ah ae))) ah)))) (pT aH ah gO) aV))
    (au (eK (i:=2) (aC (aO (ai ah az))))
    (eK (i:=7) (mj (i:=3) (bu (n6 (aO (ai ah az)) (aq (uH hr.units) ah (yb hr.hd aH))))))))))) aV)
    (au (aC (bN (ai ae (ai ae (ai ae (ai ae (ai ae (ai ae (ai ae (ai ae (ai ae (ai ae (ai ae (ai ae (ai ae (ai ae (ai ae (ai ae (ai ae (ai ae (ai ae (ai ae az))))))))))))))))))))))
    (au (aC (pR (by decide) (aq aQ (aO (ai ah (ai ae az))) ae) (aq jT ah (aq aQ (aO (ai ah (ai ah az))) ae))))
    (au (aC (fE vF ah))
    (au (eK (i:=9) (aC (aO (ai ah az))))
    (eK (i:=2) (eK (i:=7) (bu (n6 (aO (ai ah az)) (n6 (aq (uH hr.units) ah (aO (ai ah az))) (aq (uH hr.units) ah ah)))))))))))))⟩
end
open PySem.W in
theorem all_mk{l:PySem.W.OpenLaw}{w:World}{K:PySem.W.Frag}{h:Heap}{mg:Str->Option Value}{fa:Addr}(X:K.In h)(G:h.Ns mainGlobals mg)(hfa:mg "law" = some (.ref fa))
  (h0:Fd K "is_white" lV f0 d0)
  (h1:Fd K "marks" rm f1 d1)
  (h2:Fd K "sorts" rY f2 d2)
  (h3:Fd K "outside_sort" ir f3 d3)
  (h4:Fd K "_law_cell" mf f4 d4)
  (h5:Fd K "_law_mix" nN f5 d5)
  (h6:Fd K "_law_whole" kb f6 d6)
  (h7:Fd K "_law_wholes" jx f7 d7)
  (h8:Fd K "_law_point" kn f8 d8)
  (h9:Fd K "_law_points" jt f9 d9)
  (h10:Fd K "_law_eight" j5 f10 d10)
  (h11:Fd K "_law_hex" nQ f11 d11)
  (h12:Fd K "_law_sign" mq f12 d12)
  (h13:Fd K "_law_text" mx f13 d13)
  (h14:Fd K "_law_number" jG f14 d14)
  (h15:Fd K "_law_plain" kO f15 d15)
  (h16:Fd K "_law_white" kR f16 d16)
  (h17:Fd K "_law_plain_value" fR f17 d17)
  (h18:Fd K "_law_name" lX f18 d18)
  (h19:Fd K "_law_close" kF f19 d19)
  (h20:Fd K "_law_begin" kC f20 d20)
  (h21:Fd K "_law_built" kg f21 d21)
  (h22:Fd K "_law_walked" jJ f22 d22)
  (a23:nsIn K mainGlobals "law" = some (some (.ref f23))) (l23:K.lookup f23=some ⟨oc23,od23,.func (fnOf "law" "law" (fm uc) (cZ uc) (aG uc) .none kV23 dc23 pm23 an23 cd23 ct23),sl23⟩) (c23:codeIn K cd23 "law" = true) (k23:keepIn K (.ref f23)=true)
  (z0:nsIn K mainGlobals "enumerate" = some none)
  (z1:nsIn K mainGlobals "len" = some none)
  (z2:nsIn K mainGlobals "isinstance" = some none)
  (z3:nsIn K mainGlobals "int" = some none)
  (z4:nsIn K mainGlobals "bool" = some none)
  (z5:nsIn K mainGlobals "list" = some none)
  (z6:nsIn K mainGlobals "all" = some none)
  (z7:nsIn K mainGlobals "range" = some none)
  (z8:nsIn K mainGlobals "str" = some none)
  (z9:nsIn K mainGlobals "ord" = some none)
  (z10:nsIn K mainGlobals "tuple" = some none)
  (z11:nsIn K mainGlobals "sorted" = some none)
  (va0:nsIn K mainGlobals "QUOTE" = some (some (.int 34 t0)))
  (va1:nsIn K mainGlobals "COMMA" = some (some (.int 44 t1)))
  (va2:nsIn K mainGlobals "COLON" = some (some (.int 58 t2)))
  (va3:nsIn K mainGlobals "ROW_BEGIN" = some (some (.int 91 t3)))
  (va4:nsIn K mainGlobals "BACKSLASH" = some (some (.int 92 t4)))
  (va5:nsIn K mainGlobals "ROW_END" = some (some (.int 93 t5)))
  (va6:nsIn K mainGlobals "FIELDS_BEGIN" = some (some (.int 123 t6)))
  (va7:nsIn K mainGlobals "FIELDS_END" = some (some (.int 125 t7)))
  (va8:nsIn K mainGlobals "WHITE" = some (some (.ref v8))) (vl8:K.lookup v8=some ⟨.type "tuple",vd8,.seq #[.int 9 t8_0,.int 10 t8_1,.int 13 t8_2,.int 32 t8_3] vn8,vs8⟩):
  ∃ fd:FuncData,(∀(s:Shared) (v:Value),BindsTo s fd ⟨[v],[]⟩ [("_law_script",v)]) /\ ∀ base:Heap,K.In base->base.Ns mainGlobals mg->cT l.prog w K mg base (CXE l.prog w) 7 fa fd ["_law_script"] (sN K):=by
 have e:=hfa.symm.trans (PySem.W.mg_of X G a23);cases e
 have T:Txt K mg ⟨f0,d0,f1,d1,f2,d2,f3,d3,f4,d4,f5,d5,f6,d6,f7,d7,f8,d8,f9,d9,f10,d10,f11,d11,f12,d12,f13,d13,f14,d14,f15,d15,f16,d16,f17,d17,f18,d18,f19,d19,f20,d20,f21,d21,f22,d22,f23,_,_,_,_,_,_,_,_,_,v8⟩:=⟨h0.e1 X G,
  h1.e1 X G,
  h2.e1 X G,
  h3.e1 X G,
  h4.e2 X G,
  h5.e2 X G,
  h6.e1 X G,
  h7.e1 X G,
  h8.e1 X G,
  h9.e2 X G,
  h10.e1 X G,
  h11.e2 X G,
  h12.e2 X G,
  h13.e2 X G,
  h14.e1 X G,
  h15.e2 X G,
  h16.e1 X G,
  h17.e2 X G,
  h18.e2 X G,
  h19.e3 X G,
  h20.e5 X G,
  h21.e2 X G,
  h22.e1 X G,
  (dH a23 l23 c23 k23).e1 X G,
  PySem.W.mg_none_of X G z0,
  PySem.W.mg_none_of X G z1,
  PySem.W.mg_none_of X G z2,
  PySem.W.mg_none_of X G z3,
  PySem.W.mg_none_of X G z4,
  PySem.W.mg_none_of X G z5,
  PySem.W.mg_none_of X G z6,
  PySem.W.mg_none_of X G z7,
  PySem.W.mg_none_of X G z8,
  PySem.W.mg_none_of X G z9,
  PySem.W.mg_none_of X G z10,
  PySem.W.mg_none_of X G z11,
  PySem.W.mg_of X G va0,⟨t0,rfl⟩,
  PySem.W.mg_of X G va1,⟨t1,rfl⟩,
  PySem.W.mg_of X G va2,⟨t2,rfl⟩,
  PySem.W.mg_of X G va3,⟨t3,rfl⟩,
  PySem.W.mg_of X G va4,⟨t4,rfl⟩,
  PySem.W.mg_of X G va5,⟨t5,rfl⟩,
  PySem.W.mg_of X G va6,⟨t6,rfl⟩,
  PySem.W.mg_of X G va7,⟨t7,rfl⟩,
  PySem.W.mg_of X G va8,rfl,fun H=>.inr ⟨_,_,_,vl8,rfl,rfl,(by show 4<=sizeLine;decide),.cons ⟨_,rfl⟩ (.cons ⟨_,rfl⟩ (.cons ⟨_,rfl⟩ (.cons ⟨_,rfl⟩ (.nil))))⟩⟩
 exact⟨_,fun s v=>.of_eq rfl,fun base _ _=>(EY T).imp (AS fun ns h=>zl ns h)⟩
theorem walk{l:PySem.W.OpenLaw}{q:Program}{loose:List Str}{XP:(Str->Option Value)->Heap->Prop}{YP:World->Heap->Prop}{d:DefRec}{K:Params->PySem.W.Frag}(hn:l.most=some 63)(hdf:d.params.defaults=[])
  (hY:∀(w:World) (h:Heap),YP w h->(K w.params).In h)
  (F:∀(w:World) (mg:Str->Option Value) (fa:Addr) (h:Heap),(K w.params).In h->h.Ns mainGlobals mg->mg d.name=some (.ref fa) ->
    ∃ fd:FuncData,(∀(s:Shared) (u:Value),BindsTo s fd ⟨[u],[]⟩ [("_law_script",u)]) /\ ∀ base:Heap,(K w.params).In base->base.Ns mainGlobals mg->cT l.prog w (K w.params) mg base (CXE l.prog w) 7 fa fd ["_law_script"] (sN (K w.params))):
  PySem.W.WalkO q loose XP YP l.row.toRowW d [] (fun f vs=>PySem.call f vs):=
 L2.Bj (n:=63) (k:=7) (x:="_law_script") (CX:=fun w=>CXE l.prog w) (sp:=fun w=>sN (K w.params)) hn (by decide) hdf ⟨rfl,by decide,by decide⟩ hY F (fun _ _ a ns hl _ hS=>⟨a,ns,rfl,hS,hl,fun _=>rfl⟩) fun _ _ _ _ _ z=>let ⟨_,_,_,_,_,_,_,_,_,_,f⟩:=z;f
end L2.plainglass_k27_marks_placed
open PySem PySem.W PyProof.Rows
namespace PySem.W.Fast
def tw13560331532737987626:=0
def tw9385865650569162542:=0
def tw9263532697215047685:=0
def tw1056175385218321083:=0
def tw5693708101120723408:=0
def tw5235410064499398537:=0
def tw18344969778434056842:=0
def tw15954881854960033852:=0
def tw17093393000253316516:=0
def tw6888647478082237235:=0
def tw530645995988656252:=0
def tw1014862406960275792:=0
def tw2946886184932584295:=0
def tw837288016739945540:=0
def tw7404091136868028032:=0
def tw6798226958963873724:=0
def tw5496735007308386585:=0
def tw11507228450395059258:=0
def tw6652769222314553955:=0
def tw10281778257075373109:=0
def tw10770964188537305472:=0
def tw4883703314780936510:=0
def tw6840393787224478351:=0
def tw16651546818630335035:=0
def tw12521830481360993096:=0
def tw11426637946941111778:=0
def tw5117163527773028107:=0
def tw16698066349950074367:=0
def tw12243898606872917057:=0
def tw8466447120853608445:=0
def tw8484098268387217281:=0
def tw8019357144778701194:=0
def tw15456541335454645099:=0
def tw12145317686034871938:=0
def tw10784890821775354408:=0
def tw14706178251906229318:=0
def tw15964656693638112255:=0
def tw14924731614159795263:=0
def tw6629942905180818791:=0
def tw813312696938444273:=0
def tw11413194673045186082:=0
def tw14377468673135600503:=0
def tw18445799883295937564:=0
def tw3332589662496754065:=0
def tw7844542259802325483:=0
def tw15846704995440188788:=0
def tw2729597579919599437:=0
def tw10136444269340233008:=0
def tw10944408082787722671:=0
def tw10147011039308458565:=0
def tw5283045839535419832:=0
def tw3264811814938007272:=0
def tw9448498331773924912:=0
end PySem.W.Fast
set_option maxRecDepth 100000 in
set_option maxHeartbeats 0 in
theorem PySem.Challenge.cw_plainglass_k27_marks_placed_holds : PySem.Challenge.rw_plainglass_k27_marks_placed.Holds := by
 w_on;o_law;k_head;(case hw=>w_witness2)
 k_fill
 refine L2.plainglass_k27_marks_placed.walk (l:=PySem.Challenge.rw_plainglass_k27_marks_placed) rfl rfl (fun w h Y=>PySem.W.kIn_of Y) ?F
 case F=>
  intro w mg fa h KX G hmg
  refine' L2.plainglass_k27_marks_placed.all_mk KX G hmg (L2.E.dH ?a0 ?l0 ?c0 ?k0) (L2.E.dH ?a1 ?l1 ?c1 ?k1) (L2.E.dH ?a2 ?l2 ?c2 ?k2) (L2.E.dH ?a3 ?l3 ?c3 ?k3) (L2.E.dH ?a4 ?l4 ?c4 ?k4) (L2.E.dH ?a5 ?l5 ?c5 ?k5) (L2.E.dH ?a6 ?l6 ?c6 ?k6) (L2.E.dH ?a7 ?l7 ?c7 ?k7) (L2.E.dH ?a8 ?l8 ?c8 ?k8) (L2.E.dH ?a9 ?l9 ?c9 ?k9) (L2.E.dH ?a10 ?l10 ?c10 ?k10) (L2.E.dH ?a11 ?l11 ?c11 ?k11) (L2.E.dH ?a12 ?l12 ?c12 ?k12) (L2.E.dH ?a13 ?l13 ?c13 ?k13) (L2.E.dH ?a14 ?l14 ?c14 ?k14) (L2.E.dH ?a15 ?l15 ?c15 ?k15) (L2.E.dH ?a16 ?l16 ?c16 ?k16) (L2.E.dH ?a17 ?l17 ?c17 ?k17) (L2.E.dH ?a18 ?l18 ?c18 ?k18) (L2.E.dH ?a19 ?l19 ?c19 ?k19) (L2.E.dH ?a20 ?l20 ?c20 ?k20) (L2.E.dH ?a21 ?l21 ?c21 ?k21) (L2.E.dH ?a22 ?l22 ?c22 ?k22) ?a23 ?l23 ?c23 ?k23 ?z0 ?z1 ?z2 ?z3 ?z4 ?z5 ?z6 ?z7 ?z8 ?z9 ?z10 ?z11 ?va0 ?va1 ?va2 ?va3 ?va4 ?va5 ?va6 ?va7 ?va8 ?vl8
  (case a0|l0|c0|k0|a1|l1|c1|k1|a2|l2|c2|k2|a3|l3|c3|k3|a4|l4|c4|k4|a5|l5|c5|k5|a6|l6|c6|k6|a7|l7|c7|k7|a8|l8|c8|k8|a9|l9|c9|k9|a10|l10|c10|k10|a11|l11|c11|k11|a12|l12|c12|k12|a13|l13|c13|k13|a14|l14|c14|k14|a15|l15|c15|k15|a16|l16|c16|k16|a17|l17|c17|k17|a18|l18|c18|k18|a19|l19|c19|k19|a20|l20|c20|k20|a21|l21|c21|k21|a22|l22|c22|k22|a23|l23|c23|k23|z0|z1|z2|z3|z4|z5|z6|z7|z8|z9|z10|z11|va0|va1|va2|va3|va4|va5|va6|va7|va8|vl8=>k_is)
