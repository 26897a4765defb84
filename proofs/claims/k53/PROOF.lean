import PyProof.Rows.All
import Wide.All
import OpenK.AllK
import Wide.FinOn
import Lean
import PyProof.EqAt
import PyProof.EqKinds
import PyProof.TupleCall
import PySem.Challenge.RW_plainglass_k53_merged
set_option Elab.async false
set_option linter.all false
set_option compiler.extract_closed false
set_option maxRecDepth 100000
namespace L2
open PySem PySem.Spec PyProof.Rows
abbrev Key:=Sum Int Str
noncomputable def sd:Key->Value->Bool
 |.inl k,v=>Value.isInt k v
 |.inr x,v=>Value.isStrOf x v
noncomputable def GK(w:World):Key->Int
 |.inl k=>hashInt k
 |.inr x=>hashStr w x
theorem eA:∀{k:Key} {v:Value},sd k v=true->(∃ i t,k=Sum.inl i /\ v=Value.int i t) \/ (∃ x t,k=Sum.inr x /\ v=Value.str x t)
 | .inl i,v,h=>by
   obtain⟨t,e⟩:=Value.isInt_shape (k:=i) (v:=v) h;exact .inl ⟨i,t,rfl,e⟩
 | .inr x,v,h=>by
   obtain⟨t,e⟩:=Value.isStrOf_shape (x:=x) (v:=v) h;exact .inr ⟨x,t,rfl,e⟩
theorem xx(i:Int)(t:Tok):sd (.inl i) (.int i t)=true:=by simp[sd,Value.isInt]
theorem xN(x:Str)(t:Tok):sd (.inr x) (.str x t)=true:=by simp[sd,Value.isStrOf]
theorem Er(a b:Int):decide ((Sum.inl a:Key)=Sum.inl b)=(a==b):=by
 by_cases e:a=b
 . subst e;simp
 . have h:¬ (Sum.inl a:Key)=Sum.inl b:=fun q=>e (Sum.inl.inj q)
   rw[decide_eq_false h]
   exact(beq_eq_false_iff_ne.mpr e).symm
theorem El(a b:Str):decide ((Sum.inr a:Key)=Sum.inr b)=decide (a=b):=by
 by_cases e:a=b
 . subst e;simp
 . have h:¬ (Sum.inr a:Key)=Sum.inr b:=fun q=>e (Sum.inr.inj q)
   rw[decide_eq_false h,decide_eq_false e]
theorem Dq(a:Int)(b:Str):decide ((Sum.inl a:Key)=Sum.inr b)=false:=decide_eq_false (fun q=>nomatch q)
theorem DN(a:Str)(b:Int):decide ((Sum.inr a:Key)=Sum.inl b)=false:=decide_eq_false (fun q=>nomatch q)
noncomputable def fT(prog:Program)(w:World):PySem.KeyKind prog w Key where
 is:=sd
 hash:=GK w
 inj:=fun v a b ha hb=>by
  rcases eA ha with⟨i,t,rfl,rfl⟩|⟨x,t,rfl,rfl⟩
  . rcases eA hb with⟨j,u,rfl,e⟩|⟨y,u,rfl,e⟩
    . injection e with e1 _;rw[e1]
    . exact nomatch e
  . rcases eA hb with⟨j,u,rfl,e⟩|⟨y,u,rfl,e⟩
    . exact nomatch e
    . injection e with e1 _;rw[e1]
 byValue:=fun k v h=>by
  rcases eA h with⟨i,t,rfl,rfl⟩|⟨x,t,rfl,rfl⟩<;>rfl
 pyHash:=fun hv h=>by
  rcases eA hv with⟨i,t,rfl,rfl⟩|⟨x,t,rfl,rfl⟩
  . exact wpAny_pyHash_int h
  . exact wpAny_pyHash_str h
 eqBool:=fun hu hv h=>by
  rcases eA hu with⟨i,t,rfl,rfl⟩|⟨x,t,rfl,rfl⟩
  . rcases eA hv with⟨j,u,rfl,rfl⟩|⟨y,u,rfl,rfl⟩
    . rw[Er]at h;exact wpAny_eqBool_int h
    . rw[Dq]at h;exact SeqAt.EqAt.int_str i t y u _ _ _ _ h
  . rcases eA hv with⟨j,u,rfl,rfl⟩|⟨y,u,rfl,rfl⟩
    . rw[DN]at h;exact SeqAt.EqAt.str_int x t j u _ _ _ _ h
    . rw[El]at h;exact wpAny_eqBool_str h
 «strs»:=fun k x t v h=>by
  rcases eA h with⟨i,u,rfl,e⟩|⟨y,u,rfl,e⟩
  . exact nomatch e
  . injection e with e1 _
    subst e1
    cases v<;>rfl
theorem uf(prog:Program)(w:World)(i:Int)(t:Tok):(fT prog w).is (.inl i) (.int i t)=true:=xx i t
theorem ux(prog:Program)(w:World)(x:Str)(t:Tok):(fT prog w).is (.inr x) (.str x t)=true:=xN x t
inductive V where
 |non|bl (b:Bool)|int (i:Int)|str (x:Str)|byt (b:Array UInt8)|flt (b:UInt64)|ref (a:Addr)|ty (n:String)
 deriving DecidableEq
noncomputable def RelV:V->Value->Prop
 |.non,u=>u=Value.none
 |.bl b,u=>u=Value.bool b
 |.int i,u=>∃ t,u=Value.int i t
 |.str x,u=>∃ t,u=Value.str x t
 |.byt b,u=>∃ t,u=Value.bytes b t
 |.flt b,u=>∃ t,u=Value.float b t
 |.ref a,u=>u=Value.ref a
 |.ty n,u=>u=Value.type n
abbrev Vals:List V->List Value->Prop:=Paired RelV
theorem Vals.length{xs:List V}{us:List Value}(r:Vals xs us):xs.length=us.length:=Paired.length r
theorem Vals.get:∀{xs:List V} {us:List Value} {i:Nat} {x:V},Vals xs us->xs[i]?=some x->∃ u,us[i]?=some u /\ RelV x u
 |_,_,_,_,.nil,e=>by simp at e
 |_,_,0,_,.cons r _,e=>by simp at e;subst e;exact⟨_,rfl,r⟩
 | _,_,i+1,x,.cons _ t,e=>by
   obtain⟨u,h1,h2⟩:=Vals.get (i:=i) (x:=x) t (by simpa using e)
   exact⟨u,by simpa using h1,h2⟩
theorem Vals.append:∀{xs ys:List V} {us ws:List Value},Vals xs us->Vals ys ws->Vals (xs++ys) (us++ws)
 |_,_,_,_,.nil,s=>s
 |_,_,_,_,.cons r t,s=>.cons r (Vals.append t s)
theorem Vals.take:∀{xs:List V} {us:List Value} (n:Nat),Vals xs us->Vals (xs.take n) (us.take n)
 |_,_,0,_=>.nil
 |_,_,_+1,.nil=>.nil
 |_,_,n+1,.cons r t=>.cons r (Vals.take n t)
theorem Vals.drop:∀{xs:List V} {us:List Value} (n:Nat),Vals xs us->Vals (xs.drop n) (us.drop n)
 |_,_,0,r=>r
 |_,_,_+1,.nil=>.nil
 |_,_,n+1,.cons _ t=>Vals.drop n t
noncomputable def bG:Option V->Option Value->Prop
 |some v,some u=>RelV v u
 |none,none=>True
 |_,_=>False
noncomputable def KV{κ:Type}:List (κ×V)->List (κ×Value)->Prop:=Paired fun (p:κ×V) (q:κ×Value)=>p.1=q.1 /\ RelV p.2 q.2
noncomputable def kV:Key->V
 |.inl i=>.int i
 |.inr x=>.str x
inductive HO where
  |lst (xs:List V)
  |tup (xs:List V)
  |dK (kvs:List (Key×V))|dT (kvs:List (List Key×Addr×V))
  |set (S:Int->Bool) (n:Nat)
  |ins (C dx:Addr) (fs:List (Str×V))
  |own (x:Addr)
  |xd (fs:List (Str×V))
  |met (f x:Addr)
  |rng (lo hi:Int)
  |frz (o:Obj) (u:HO)
  |tbl (ps:Array Value)
  |ext (φ:Heap->Prop)
abbrev Hp:=Addr->Option HO
noncomputable def upd(H:Hp)(a:Addr)(o:HO):Hp:=fun b=>if b=a then some o else H b
theorem bE{H:Hp}{a:Addr}{o:HO}:upd H a o a=some o:=by unfold upd;rw[if_pos rfl]
theorem bY{H:Hp}{a b:Addr}{o:HO}(h:b≠a):upd H a o b=H b:=by unfold upd;rw[if_neg h]
theorem ig{H:Hp}{a b:Addr}{o:HO}(h:H a=some o)(h':H b=none):a≠b:=by
 intro e;subst e;rw[h]at h';cases h'
noncomputable def NoD(h:Heap)(a:Addr):Prop:=∀ o,h.get? a=some o->o.dict=none
theorem NoD.keep{h h':Heap}{a:Addr}{o:Obj}(n:NoD h a)(e:h.get? a=some o)(e':h'.get? a=some o):NoD h' a:=fun u z=>by rw[e']at z;cases z;exact n o e
theorem NoD.of{h:Heap}{a:Addr}{o:Obj}(e:h.get? a=some o)(d:o.dict=none):NoD h a:=fun u z=>by rw[e]at z;cases z;exact d
theorem NoD.new(h:Heap)(xs:Array Value):NoD (h.push { cls:=.type "tuple",data:=.seq xs }) h.objs.size:=.of (Heap.get?_push_size _ rfl) rfl
section
variable(P:Program)(w:World)
noncomputable def fP(H:Hp)(h:Heap)(a:Addr):HO->Prop
 |.lst xs=>xs.length<=sizeLine /\ ∃(its:List Value) (n:Nat),Vals xs its /\ h.get? a=some { cls:=.type "list",data:=.seq its.toArray n }
 |.tup xs=>(xs.length<=sizeLine /\ NoD h a) /\ ∃ its:List Value,Vals xs its /\ IsTup h a its.toArray
 |.dK kvs=>kvs.length<=sizeLine /\ (a==sysModules)=false /\ ∃ vs,KV kvs vs /\ h.DictOf (fT P w) a vs
 | .dT kvs=>kvs.length <= sizeLine /\ (a == sysModules) = false /\ ∃ xs:List (List Key × Addr × Value),
    Paired (fun (p:List Key×Addr×V) (q:List Key×Addr×Value)=>p.1=q.1 /\ p.2.1=q.2.1 /\ RelV p.2.2 q.2.2) kvs xs /\
    ∃ o es ep,h.get? a=some o /\ o.ExactDict /\ o.data=.dict es ep /\ es.toList=xs.map (entryOfKey (tupleKind (fT P w))) /\ (xs.map (·.1)).Nodup
 |.set S n=>h.SetOf (intKind P w) a S n
 | .ins C dx fs=>H dx = some (.own a) /\ fs.length <= 1000 /\ dx ≠ a /\ h.get? a = some (PySem.W.instObj C dx) /\
    ∃ mA,h.Ns1 dx mA /\ (∀ f,bG (fs.lookup f) (mA f)) /\ PySem.Within mA (fs.map (·.1))
 |.own _=>∃ o,h.get? a=some o
 |.xd fs=>∃ mA,h.Ns1 a mA /\ ∀ f,bG (fs.lookup f) (mA f)
 |.rng lo hi=>∃ t u v,h.get? a=some { cls:=.type "range",data:=.fields #[.int lo t,.int hi u,.int 1 v] }
 |.frz o u=>h.get? a=some o /\ fP H h a u
 |.tbl ps=>h.get? a=some { cls:=.none,data:=.fields ps }
 |.met f x=>h.get? a=some (PySem.W.methodObj (.ref f) (.ref x))
 |.ext φ=>φ h /\ (∃ o,h.get? a=some o) /\ ∀ h1 h2:Heap,φ h1->(∀ o,h1.get? a=some o->h2.get? a=some o)->φ h2
noncomputable def HOk(H:Hp)(h:Heap):Prop:=∀ a o,H a=some o->fP P w H h a o
end
section
variable{P:Program}{w:World}{H H':Hp}{h h':Heap}{a:Addr}{o:HO}
theorem fP.lt(x:fP P w H h a o):a<h.objs.size:=by
 cases o with
 |lst xs=>obtain⟨_,_,_,_,e⟩:=x;exact Heap.lt_size e
 |tup xs=>obtain⟨_,_,_,p⟩:=x;exact p.lt
 |dK kvs=>obtain⟨_,_,_,_,o,_,_,e,_⟩:=x;exact Heap.lt_size e
 |dT kvs=>obtain⟨_,_,_,_,o,_,_,e,_⟩:=x;exact Heap.lt_size e
 |set S n=>obtain⟨o,_,_,_,e,_⟩:=x;exact Heap.lt_size e
 |ins C dx fs=>obtain⟨_,_,_,e,_⟩:=x;exact Heap.lt_size e
 |own y=>obtain⟨_,e⟩:=x;exact Heap.lt_size e
 |xd fs=>obtain⟨_,⟨_,_,_,e,_⟩,_⟩:=x;exact Heap.lt_size e
 |rng lo hi=>obtain⟨_,_,_,e⟩:=x;exact Heap.lt_size e
 |frz ob u=>obtain⟨e,_⟩:=x;exact Heap.lt_size e
 |tbl ps=>exact Heap.lt_size (show h.get? a=some _ from x)
 |met f y=>exact Heap.lt_size (show h.get? a=some _ from x)
 |ext φ=>obtain⟨_,⟨_,e⟩,_⟩:=x;exact Heap.lt_size e
theorem fP.m3(x:fP P w H h a o)(k:∀ b u,(b=a \/ H b=some (.own a))->h.get? b=some u->h'.get? b=some u)
  (ho:∀ b,H b=some (.own a)->H' b=some (.own a)) (ht:∀ b xs,H b=some (.tup xs)->H' b=some (.tup xs)):fP P w H' h' a o:=by
 induction o with
 |lst xs=>obtain⟨z,its,n,r,e⟩:=x;exact⟨z,its,n,r,k _ _ (.inl rfl) e⟩
 |tup xs=>obtain⟨z,its,r,ob,e,c⟩:=x;exact⟨⟨z.1,z.2.keep e (k _ _ (.inl rfl) e)⟩,its,r,ob,k _ _ (.inl rfl) e,c⟩
 |dK kvs=>obtain⟨z,y,vs,r,ob,es,ep,e,c⟩:=x;exact⟨z,y,vs,r,ob,es,ep,k _ _ (.inl rfl) e,c⟩
 | dT kvs=>
   obtain⟨z,y,xs,r,ob,es,ep,e,c⟩:=x
   exact⟨z,y,xs,r,ob,es,ep,k _ _ (.inl rfl) e,c⟩
 |set S n=>obtain⟨ob,es,ep,t,e,c⟩:=x;exact⟨ob,es,ep,t,k _ _ (.inl rfl) e,c⟩
 | ins C dx fs=>
   obtain⟨d,z,ne,e,mA,⟨od,es,ep,e2,c⟩,r⟩:=x
   exact⟨ho _ d,z,ne,k _ _ (.inl rfl) e,mA,⟨od,es,ep,k _ _ (.inr d) e2,c⟩,r⟩
 |own y=>obtain⟨ob,e⟩:=x;exact⟨ob,k _ _ (.inl rfl) e⟩
 |xd fs=>obtain⟨mA,⟨od,es,ep,e,c⟩,r⟩:=x;exact⟨mA,⟨od,es,ep,k _ _ (.inl rfl) e,c⟩,r⟩
 |rng lo hi=>obtain⟨t,u,v,e⟩:=x;exact⟨t,u,v,k _ _ (.inl rfl) e⟩
 |frz ob u ih=>obtain⟨e,q⟩:=x;exact⟨k _ _ (.inl rfl) e,ih q⟩
 | tbl ps=>
   have e:h.get? a=some { cls:=.none,data:=.fields ps }:=x
   show h'.get? a=some { cls:=.none,data:=.fields ps };exact k a _ (.inl rfl) e
 | met f y=>
   have e:h.get? a=some (PySem.W.methodObj (.ref f) (.ref y)):=x
   show h'.get? a=some (PySem.W.methodObj (.ref f) (.ref y));exact k a _ (.inl rfl) e
 |ext φ=>obtain⟨p,⟨o,e⟩,st⟩:=x;exact⟨st _ _ p fun o q=>k _ _ (.inl rfl) q,⟨o,k _ _ (.inl rfl) e⟩,st⟩
theorem HOk.lt(x:HOk P w H h)(e:H a=some o):a<h.objs.size:=(x a o e).lt
theorem HOk.fresh(x:HOk P w H h)(e:h.objs.size<=a):H a=none:=by
 cases q:H a with
 |none=>rfl
 |some u=>exact absurd (Nat.lt_of_lt_of_le (x.lt q) e) (Nat.lt_irrefl _)
theorem HOk.kept(x:HOk P w H h)(k:∀ b u,h.get? b=some u->h'.get? b=some u):HOk P w H h':=fun a o e=>
 (x a o e).m3 (fun b u _ q=>k b u q) (fun _ q=>q) fun _ _ q=>q
theorem HOk.laid(x:HOk P w H h)(k:∀ b u,h.get? b=some u->h'.get? b=some u)(hp:h.objs.size<=a)(new:fP P w (upd H a o) h' a o):HOk P w (upd H a o) h':=fun b u e=>by
 have hn:=x.fresh hp
 by_cases hb:b=a
 . subst hb;rw[bE]at e;cases e;exact new
 . rw[bY hb]at e
   exact(x b u e).m3 (fun c v _ q=>k c v q) (fun c q=>by rw[bY (ig q hn)];exact q) fun c xs q=>by rw[bY (ig q hn)];exact q
end
noncomputable def Rd(H:Hp)(a:Addr)(u:HO):Prop:=H a=some u \/ ∃ o,H a=some (.frz o u)
theorem Rd.ok{P:Program}{w:World}{H:Hp}{h:Heap}{a:Addr}{u:HO}(r:Rd H a u)(x:HOk P w H h):fP P w H h a u:=by
 rcases r with r|⟨o,r⟩
 . exact x a u r
 . obtain⟨_,q⟩:=x a _ r;exact q
noncomputable def Mut:Option HO->Prop
 |some (.lst _)=>True
 |some (.dK _)=>True
 |some (.dT _)=>True
 |some (.set _ _)=>True
 |some (.ins _ _ _)=>True
 |some (.ext _)=>True
 |_=>False
section
variable{P:Program}{w:World}{H:Hp}{h h':Heap}{x e:Addr}{o':HO}
theorem HOk.write(ok:HOk P w H h)(mu:Mut (H x))(he:e=x \/ H e=some (.own x))(k:∀ b u,b≠e->h.get? b=some u->h'.get? b=some u)(heo:∃ u,h'.get? e=some u)
  (new:fP P w (upd H x o') h' x o'):HOk P w (upd H x o') h':=fun b u q=>by
 have nown:∀ c y,H c=some (.own y)->c≠x:=fun c y r z=>by subst z;rw[r]at mu;exact mu
 have ntup:∀ c xs,H c=some (.tup xs)->c≠x:=fun c xs r z=>by subst z;rw[r]at mu;exact mu
 by_cases hb:b=x
 . subst hb;rw[bE]at q;cases q;exact new
 . rw[bY hb]at q
   by_cases hbe:b=e
   . have q':H b = some (.own x):=by
      rcases he with z|z
      . exact absurd (hbe.trans z) hb
      . rw[hbe];exact z
     rw[q]at q';cases q';obtain⟨v,hv⟩:=heo
     exact⟨v,by rw[hbe];exact hv⟩
   . refine(ok b u q).m3 (fun c v hc r=>k c v ?_ r) (fun c r=>by rw[bY (nown c b r)];exact r) fun c xs r=>by rw[bY (ntup c xs r)];exact r
     rcases hc with rfl|hc
     . exact hbe
     . rintro rfl
       rcases he with z|z
       . exact nown c b hc z
       . rw[hc]at z;cases z;exact hb rfl
end
structure Un(fs ex:List Addr)(H H':Hp)(h h':Heap):Prop where
 keep:∀ b o,h.get? b=some o->H b=none->b∉fs->b∉ex->h'.get? b=some o
 slot:∀ b o,h.get? b=some o->H b=none->b∈fs->b∉ex->∃ sl,h'.get? b=some { o with slots:=sl }
 free:∀ b o,h.get? b=some o->H b=none->b∉ex->H' b=none
 there:∀ b o,h.get? b=some o->b∉ex->∃ o',h'.get? b=some o'
 tups:∀ b xs,H b=some (.tup xs)->H' b=some (.tup xs)
 frzs:∀ b o u,H b=some (.frz o u)->H' b=some (.frz o u)
 tbls:∀ b ps,H b=some (.tbl ps)->∃ more,H' b=some (.tbl (ps++more))
section
variable{fs fs' ex ex':List Addr}{H H1 H2:Hp}{h h1 h2 h':Heap}{a x e:Addr}{o:HO}
theorem Un.any(u:Un fs ex H H1 h h1){b:Addr}{ob:Obj}(q:h.get? b=some ob)(n:H b=none)(hx:b∉ex):∃ sl,h1.get? b=some { ob with slots:=sl }:=by
 by_cases hb:b∈fs
 . exact u.slot b ob q n hb hx
 . exact⟨ob.slots,u.keep b ob q n hb hx⟩
theorem Un.kept(k:∀ b u,h.get? b=some u->h'.get? b=some u):Un fs ex H H h h':=
 ⟨fun b ob q _ _ _=>k b ob q,fun b ob q _ _ _=>⟨ob.slots,k b ob q⟩,fun _ _ _ n _=>n,fun b ob q _=>⟨ob,k b ob q⟩,fun _ _ q=>q,fun _ _ _ q=>q,fun _ ps q=>⟨#[],by rw[q];simp⟩⟩
theorem Un.refl:Un fs ex H H h h:=Un.kept fun _ _ q=>q
theorem Un.laid(k:∀ b u,h.get? b=some u->h'.get? b=some u)(hp:h.objs.size<=a)(hn:H a=none):Un fs ex H (upd H a o) h h' where
 keep:=fun b u q _ _ _=>k b u q
 slot:=fun b u q _ _ _=>⟨u.slots,k b u q⟩
 free:=fun b u q n _=>by rw[bY (Nat.ne_of_lt (Nat.lt_of_lt_of_le (Heap.lt_size q) hp))];exact n
 there:=fun b u q _=>⟨u,k b u q⟩
 tups:=fun b xs q=>by rw[bY (ig q hn)];exact q
 frzs:=fun b u xs q=>by rw[bY (ig q hn)];exact q
 tbls:=fun b ps q=>⟨#[],by rw[bY (ig q hn),q];simp⟩
theorem Un.write(mu:Mut (H x))(he:e=x \/ H e=some (.own x))(k:∀ b u,b≠e->h.get? b=some u->h'.get? b=some u)(heo:∃ u,h'.get? e=some u):Un fs ex H (upd H x o) h h':=by
 have hx:∀ b,H b=none->b≠x:=fun b n z=>by subst z;rw[n]at mu;exact mu
 have hb:∀ b,H b=none->b≠e:=fun b n z=>by
  subst z
  rcases he with r|r
  . exact hx b n r
  . rw[n]at r;cases r
 have hm:∀ b u,H b=some u->¬ Mut (some u)->b≠x:=fun b u q nm z=>by subst z;rw[q]at mu;exact nm mu
 refine⟨fun b u q n _ _=>k b u (hb b n) q,fun b u q n _ _=>⟨u.slots,k b u (hb b n) q⟩,fun b u q n _=>by rw[bY (hx b n)];exact n,fun b u q _=>?_,
  fun b xs q=>by rw[bY (hm b _ q fun z=>z)];exact q,fun b u xs q=>by rw[bY (hm b _ q fun z=>z)];exact q,fun b ps q=>⟨#[],by rw[bY (hm b _ q fun z=>z),q];simp⟩⟩
 by_cases hbe:b=e
 . subst hbe;exact heo
 . exact⟨u,k b u hbe q⟩
end
noncomputable def trk(h:Heap)(H:Hp):List Addr:=(List.range h.objs.size).filter fun a=>(H a).isSome
noncomputable def tY(h:Heap)(H:Hp):Heap:=PySem.W.hideAll h (trk h H)
theorem xw(h:Heap)(H:Hp):(tY h H).objs.size=h.objs.size:=PySem.W.hideAll_size _ _
theorem y2{h:Heap}{H:Hp}{b:Addr}{o:Obj}(e:h.get? b=some o)(n:H b=none):(tY h H).get? b=some o:=
 PySem.W.hideAll_get _ e fun hm=>by
  have q:(H b).isSome=true:=(List.mem_filter.mp hm).2
  rw[n]at q;simp at q
theorem A3{h:Heap}{H:Hp}{b:Addr}{o:Obj}(e:(tY h H).get? b=some o):h.get? b=some o /\ H b=none:=by
 have e':h.get? b=some o:=PySem.W.of_hideAll (trk h H) e
 refine⟨e',?_⟩
 cases q:H b with
 |none=>rfl
 | some x=>
   have hm:b∈trk h H:=List.mem_filter.mpr ⟨List.mem_range.mpr (Heap.lt_size e'),by simp[q]⟩
   have z:(tY h H).get? b=none:=PySem.W.hideAll_none (trk h H) hm
   rw[z]at e;cases e
noncomputable def A4(g h:Heap)(L:Addr):List (Addr×Obj):=(List.range h.objs.size).filterMap fun a=>if a=L \/ (g.get? a).isSome=true then none else(h.get? a).map fun o=>(a,o)
noncomputable def rest(g h:Heap)(L d:Addr):List (Addr×Obj):=(A4 g h L).filter fun p=>decide (p.1≠d)
structure Mod(K:PySem.W.Frag)(mg:Str->Option Value)(base:Heap):Prop where
 kin:K.In base
 glob:base.Ns mainGlobals mg
 blt:∃ mb,base.Ns builtinsNs mb /\ ∀ x:Str,x ≠ "__name__" -> mb x=bootBuiltins x
 nolimit:base.NoLimit
structure Cx where
 prog:Program
 w:World
 K:PySem.W.Frag
 mg:Str->Option Value
 base:Heap
 A:Around
 N:List Str
 s₀:Shared
 H₀:Hp
 env:Env
 outer:List Env
 stack:List Env
 ex:List Addr
 fn:Str->Bool
 calm:Bool
 pn:List (Addr×Obj)
 xe:Value->Shared->Prop
noncomputable def frs(l:List Env):List Addr:=l.filterMap (·.frame)
noncomputable abbrev Cx.fs(X:Cx):List Addr:=frs X.outer
noncomputable def Vis(sc:Scope)(x:Str):Prop:=sc.names.lookup x=some .local \/ sc.names.lookup x=some .cell \/ sc.names.lookup x=some .free
noncomputable def Loc(sc:Scope)(x:Str):Prop:=sc.names.lookup x=some .local \/ sc.names.lookup x=some .cell
noncomputable def Look(env:Env)(h:Heap)(m:Str->Option Value)(x:Str)(u:Value):Prop:=
 (env.kindOf x=some .local /\ m x=some u) \/ ((env.kindOf x=some .cell \/ env.kindOf x=some .free) /\ ∃ c,env.cells.lookup x=some c /\ h.IsCell c (some u))
structure Cx.Ok(X:Cx):Prop where
 mod:Mod X.K X.mg X.base
 kind:X.env.scope.kind=.function
 glob:X.env.globals=mainGlobals
 blt:X.env.builtins=builtinsNs
 above:X.s₀.heap.objs.size<=X.env.locals
 inj:∀ x y c,X.env.cells.lookup x=some c->X.env.cells.lookup y=some c->x=y
 has:∀ x,(X.env.kindOf x=some .cell \/ X.env.kindOf x=some .free)->∃ c,X.env.cells.lookup x=some c
 cab:∀ x c,X.fn x=true->X.env.cells.lookup x=some c->X.s₀.heap.objs.size<=c
 hd:X.calm=true->X.A.handled=none
 frames:X.A.frames=some X.stack
 stk:X.stack=X.outer \/ (X.stack=X.env ::X.outer /\ X.env.frame=some X.env.locals)
 exf:∀ b∈X.ex,b≠X.env.locals /\ ∀ x c,X.env.cells.lookup x=some c->c≠b
 bs:∀ b o,X.base.get? b=some o->X.s₀.heap.get? b=some o /\ X.H₀ b=none
 bsz:X.base.objs.size<=X.s₀.heap.objs.size
 noex:∀ b o,X.base.get? b=some o->b∉X.ex
 exfs:∀ b∈X.ex,b∉X.fs
 tQ:X.s₀.heap.FunFrames X.base X.outer
 frf:∀ b∈X.fs,X.H₀ b=none
structure Inv(X:Cx)(pins:List (Addr×Obj))(σ:List (Option V))(H:Hp)(s:Shared):Prop where
 ok:X.Ok
 os:s.os=X.s₀.os
 bare:AllBare s.gens
 base:Un X.fs X.ex X.H₀ H X.s₀.heap s.heap
 loc:∃ m,s.heap.Ns X.env.locals m /\ ∀(i:Nat) (x:Str) (v:V),X.N[i]?=some x->σ[i]?=some (some v)->Vis X.env.scope x->∃ u,RelV v u /\ Look X.env s.heap m x u
 cell:∀ x c,X.env.cells.lookup x=some c->∃ v,s.heap.IsCell c v
 free:H X.env.locals=none
 freeC:∀ x c,X.env.cells.lookup x=some c->H c=none
 pin:∀ p∈X.pn++pins,s.heap.get? p.1=some p.2 /\ H p.1=none /\ p.1≠X.env.locals /\ p.1∉X.fs /\ ∀ v,p.2.data≠.cell v
 hok:HOk X.prog X.w H s.heap
 len:σ.length=X.N.length
section
variable{X:Cx}{pins:List (Addr×Obj)}{σ:List (Option V)}{H H':Hp}{s:Shared}{h':Heap}
theorem Cx.Ok.Gw(ok:X.Ok){b:Addr}{o:Obj}(e:X.base.get? b=some o):b∉X.fs:=fun hb=>by
 have:=(ok.tQ.mem hb).1;rw[e]at this;cases this
theorem Inv.bs(I:Inv X pins σ H s):∀ b o,X.base.get? b=some o->s.heap.get? b=some o /\ H b=none:=fun b o e=>
 ⟨I.base.keep b o (I.ok.bs b o e).1 (I.ok.bs b o e).2 (I.ok.Gw e) (I.ok.noex b o e),I.base.free b o (I.ok.bs b o e).1 (I.ok.bs b o e).2 (I.ok.noex b o e)⟩
theorem Inv.bk(I:Inv X pins σ H s):∀ b o,X.base.get? b=some o->s.heap.get? b=some o:=fun b o e=>(I.bs b o e).1
theorem Inv.mod(I:Inv X pins σ H s):Mod X.K X.mg X.base:=I.ok.mod
theorem Inv.kIn(I:Inv X pins σ H s):X.K.In s.heap:=I.ok.mod.kin.keeps I.bk
theorem Inv.nolimit(I:Inv X pins σ H s):s.heap.NoLimit:=I.ok.mod.nolimit.keeps I.bk
theorem Inv.lt(I:Inv X pins σ H s):X.env.locals<s.heap.objs.size:=let ⟨_,hn,_⟩:=I.loc;hn.lt
theorem Inv.sz(I:Inv X pins σ H s):X.s₀.heap.objs.size<=s.heap.objs.size:=Nat.le_trans I.ok.above (Nat.le_of_lt I.lt)
theorem Inv.GH(I:Inv X pins σ H s){a:Addr}(h:s.heap.objs.size<=a):a∉X.fs:=fun hb=>by
 obtain⟨_,o,ho,_⟩:=I.ok.tQ.mem hb;exact absurd (Nat.lt_of_lt_of_le (Heap.lt_size ho) (Nat.le_trans I.sz h)) (Nat.lt_irrefl _)
theorem Inv.cne(I:Inv X pins σ H s):∀ x c,X.env.cells.lookup x=some c->c≠X.env.locals:=fun x c e z=>by
 obtain⟨v,o,ho,hd⟩:=I.cell x c e;obtain⟨m,⟨o',es,ep,ho',hd',_⟩,_⟩:=I.loc;rw[z,ho']at ho;cases ho;rw[hd']at hd;cases hd
theorem Inv.tQ(I:Inv X pins σ H s):s.heap.FunFrames X.base X.outer:=by
 have all:∀(l:List Env),(∀ b∈frs l,b∈X.fs)->X.s₀.heap.FunFrames X.base l->s.heap.FunFrames X.base l:=by
  intro l
  induction l with
  |nil=>intro _ _;trivial
  | cons env r ih=>
    intro hs hl;obtain⟨hk,⟨L,o,hf,hn,ho,hd⟩,hr⟩:=hl
    have hL:L∈X.fs:=hs L (by unfold frs;rw[List.filterMap_cons,hf];exact List.mem_cons_self)
    obtain⟨sl,e⟩:=I.base.slot L o ho (I.ok.frf L hL) hL fun z=>I.ok.exfs L z hL
    exact⟨hk,⟨L,_,hf,hn,e,hd⟩,ih (fun b hb=>hs b (by unfold frs;rw[List.filterMap_cons,hf];exact List.mem_cons_of_mem _ hb)) hr⟩
 exact all X.outer (fun _ hb=>hb) I.ok.tQ
theorem Inv.stack(I:Inv X pins σ H s):s.heap.FunFrames X.base X.stack:=by
 rcases I.ok.stk with e|⟨e,hf⟩
 . rw[e];exact I.tQ
 . rw[e];obtain⟨m,hn,_⟩:=I.loc;refine .cons (by rw[I.ok.kind];decide) hf hn ?_ I.tQ;exact Heap.get?_none_of_le (Nat.le_trans I.ok.bsz I.ok.above)
theorem Inv.vF(I:Inv X pins σ H s):∀ b∈frs X.stack,b∈X.env.locals ::X.fs:=fun b hb=>by
 rcases I.ok.stk with e|⟨e,hf⟩
 . rw[e]at hb;exact List.mem_cons_of_mem _ hb
 . rw[e]at hb;unfold frs at hb;rw[List.filterMap_cons,hf]at hb;exact hb
theorem Inv.tp(I:Inv X pins σ H s):∀ b∈frs X.stack,H b=none:=fun b hb=>by
 rcases List.mem_cons.mp (I.vF b hb)with e|hb
 . rw[e];exact I.free
 . obtain⟨_,o,ho,_⟩:=I.ok.tQ.mem hb
   exact I.base.free b o ho (I.ok.frf b hb) fun z=>I.ok.exfs b z hb
theorem Inv.step{g':Array GenState}{t':Nat}{d':Drawn}{ch:List Addr}(I:Inv X pins σ H s)
  (hch:∀ b∈ch,(b∈X.ex \/ X.s₀.heap.objs.size<=b) /\ b≠X.env.locals /\ (∀ x c,X.env.cells.lookup x=some c->c≠b) /\ ∀ p∈X.pn++pins,p.1≠b)
  (keep:∀ b o,b≠X.env.locals->b∉X.fs->b∉ch->s.heap.get? b=some o->H b=none->h'.get? b=some o)
  (slot:∀ b o,b≠X.env.locals->b∈X.fs->b∉ch->s.heap.get? b=some o->H b=none->∃ sl,h'.get? b=some { o with slots:=sl }) (free:∀ b o,b∉ch->s.heap.get? b=some o->H b=none->H' b=none)
  (there:∀ b o,b∉ch->s.heap.get? b=some o->∃ o',h'.get? b=some o')
  (tups:∀ b xs,H b=some (.tup xs)->H' b=some (.tup xs)) (frzs:∀ b o u,H b=some (.frz o u)->H' b=some (.frz o u)) (tbls:∀ b ps,H b=some (.tbl ps)->∃ more,H' b=some (.tbl (ps++more)))
  (ns:∀ m,s.heap.Ns X.env.locals m->h'.Ns X.env.locals m) (hok:HOk X.prog X.w H' h') (hg:AllBare g'):
  Inv X pins σ H' { s with heap:=h',gens:=g',drawn:=d',toks:=t' }:=by
 have neL:∀ b o,X.s₀.heap.get? b=some o->b≠X.env.locals:=fun b o e=>Nat.ne_of_lt (Nat.lt_of_lt_of_le (Heap.lt_size e) I.ok.above)
 have neC:∀ b o,X.s₀.heap.get? b=some o->b∉X.ex->b∉ch:=fun b o e hx hb=>by
  rcases(hch b hb).1 with z|z
  . exact hx z
  . exact absurd (Nat.lt_of_lt_of_le (Heap.lt_size e) z) (Nat.lt_irrefl _)
 have cellK:∀ x c,X.env.cells.lookup x=some c->∀ v,s.heap.IsCell c v->h'.IsCell c v:=fun x c e v ⟨o,ho,hd⟩=>by
  have nch:c∉ch:=fun z=>(hch c z).2.2.1 x c e rfl
  by_cases hc:c∈X.fs
  . obtain⟨sl,q⟩:=slot c o (I.cne x c e) hc nch ho (I.freeC x c e)
    exact⟨_,q,hd⟩
  . exact⟨o,keep c o (I.cne x c e) hc nch ho (I.freeC x c e),hd⟩
 refine⟨I.ok,I.os,hg,⟨fun b o e n hb hx=>?_,fun b o e n hb hx=>?_,fun b o e n hx=>?_,fun b o e hx=>?_,fun b xs e=>tups b xs (I.base.tups b xs e),fun b o xs e=>frzs b o xs (I.base.frzs b o xs e),fun b ps e=>?_⟩,?_,fun x c e=>?_,?_,fun x c e=>?_,fun p hp=>?_,hok,I.len⟩
 . exact keep b o (neL b o e) hb (neC b o e hx) (I.base.keep b o e n hb hx) (I.base.free b o e n hx)
 . obtain⟨sl,e1⟩:=I.base.slot b o e n hb hx;obtain⟨sl',e2⟩:=slot b _ (neL b o e) hb (neC b o e hx) e1 (I.base.free b o e n hx)
   exact⟨sl',e2⟩
 . obtain⟨o',e1⟩:=I.base.there b o e hx;exact free b o' (neC b o e hx) e1 (I.base.free b o e n hx)
 . obtain⟨o',e1⟩:=I.base.there b o e hx;exact there b o' (neC b o e hx) e1
 . obtain⟨m1,e1⟩:=I.base.tbls b ps e;obtain⟨m2,e2⟩:=tbls b _ e1
   exact⟨m1++m2,by rw[e2,Array.append_assoc]⟩
 . obtain⟨m,hn,hl⟩:=I.loc
   refine⟨m,ns m hn,fun i x v e1 e2 e3=>?_⟩
   obtain⟨u,r,l⟩:=hl i x v e1 e2 e3
   refine⟨u,r,?_⟩
   rcases l with l|⟨k,c,e,z⟩
   . exact .inl l
   . exact .inr ⟨k,c,e,cellK x c e _ z⟩
 . obtain⟨v,z⟩:=I.cell x c e
   exact⟨v,cellK x c e v z⟩
 . obtain⟨m,⟨o,_,_,ho,_⟩,_⟩:=I.loc;exact free _ o (fun z=>(hch _ z).2.1 rfl) ho I.free
 . obtain⟨v,o,ho,hd⟩:=I.cell x c e;exact free c o (fun z=>(hch c z).2.2.1 x c e rfl) ho (I.freeC x c e)
 . obtain⟨e,n,ne,nf,d⟩:=I.pin p hp
   have nch:p.1∉ch:=fun z=>(hch p.1 z).2.2.2 p hp rfl
   exact⟨keep p.1 p.2 ne nf nch e n,free p.1 p.2 nch e n,ne,nf,d⟩
theorem Inv.un{t':Nat}(I:Inv X pins σ H s)(u:Un X.fs [] H H' s.heap h')(hok:HOk X.prog X.w H' h'):Inv X pins σ H' { s with heap:=h',toks:=t' }:=by
 obtain⟨m,⟨o,es,ep,ho,r⟩,_⟩:=id I.loc;obtain⟨sl,hL⟩:=u.any ho I.free (by simp)
 exact I.step (g':=s.gens) (d':=s.drawn) (ch:=[]) (fun _ z=>nomatch z) (fun b o _ hb _ e n=>u.keep b o e n hb (by simp)) (fun b o _ hb _ e n=>u.slot b o e n hb (by simp)) (fun b o _ e n=>u.free b o e n (by simp)) (fun b o _ e=>u.there b o e (by simp)) u.tups u.frzs u.tbls (fun m' hm=>by
  obtain⟨o',es',ep',ho',r'⟩:=hm;rw[ho]at ho';cases ho'
  exact⟨_,es',ep',hL,r'⟩) hok I.bare
theorem Inv.call{g':Array GenState}{t':Nat}{d':Drawn}{ch:List Addr}(I:Inv X pins σ H s)(u:Un (frs X.stack) ch H H' s.heap h')(hok:HOk X.prog X.w H' h')(hg:AllBare g')
  (hch:∀ b∈ch,(b∈X.ex \/ X.s₀.heap.objs.size<=b) /\ b≠X.env.locals /\ (∀ x c,X.env.cells.lookup x=some c->c≠b) /\ ∀ p∈X.pn++pins,p.1≠b):
  Inv X pins σ H' { s with heap:=h',gens:=g',drawn:=d',toks:=t' }:=by
 obtain⟨m,⟨o,es,ep,ho,r⟩,_⟩:=id I.loc
 obtain⟨sl,hL⟩:=u.any ho I.free fun z=>(hch _ z).2.1 rfl
 exact I.step (ch:=ch) hch (fun b o hL hb hc e n=>u.keep b o e n (fun z=>(List.mem_cons.mp (I.vF b z)).elim hL hb) hc) (fun b o _ _ hc e n=>u.any e n hc) (fun b o hc e n=>u.free b o e n hc) (fun b o hc e=>u.there b o e hc) u.tups u.frzs u.tbls (fun m' hm=>by
  obtain⟨o',es',ep',ho',r'⟩:=hm;rw[ho]at ho';cases ho'
  exact⟨_,es',ep',hL,r'⟩) hok hg
theorem Inv.turned{t':Nat}{it:Addr}(I:Inv X pins σ H s)(k:∀ b o,b≠it->s.heap.get? b=some o->h'.get? b=some o)(hn:H it=none)(hL:it≠X.env.locals)
  (h1:it∈X.ex \/ X.s₀.heap.objs.size<=it) (h2:∀ x c,X.env.cells.lookup x=some c->c≠it) (h3:∀ p∈X.pn++pins,p.1≠it):Inv X pins σ H { s with heap:=h',toks:=t' }:=by
 have nit:∀ b u,H b=some u->b≠it:=fun b u e z=>by rw[z,hn]at e;cases e
 refine I.step (g':=s.gens) (d':=s.drawn) (ch:=[it]) (fun b hb=>?_) (fun b o _ _ hc e _=>k b o (fun z=>hc (by simp[z])) e) (fun b o _ _ hc e _=>⟨o.slots,k b o (fun z=>hc (by simp[z])) e⟩) (fun _ _ _ _ n=>n)
  (fun b o hc e=>⟨o,k b o (fun z=>hc (by simp[z])) e⟩) (fun _ _ e=>e) (fun _ _ _ e=>e) (fun b ps e=>⟨#[],by rw[e];simp⟩) (fun m hm=>?_) (fun b u e=>?_) I.bare
 . have e:b=it:=by simpa using hb
   subst e
   exact⟨h1,hL,h2,h3⟩
 . obtain⟨o,es,ep,ho,r⟩:=hm
   exact⟨o,es,ep,k _ o (Ne.symm hL) ho,r⟩
 . refine(I.hok b u e).m3 (fun c v hc q=>k c v ?_ q) (fun _ q=>q) fun _ _ q=>q
   rcases hc with z|z
   . rw[z];exact nit b u e
   . exact nit c _ z
theorem Inv.tok(I:Inv X pins σ H s)(t:Nat):Inv X pins σ H { s with toks:=t }:=I.un (h':=s.heap) (t':=t) Un.refl I.hok
theorem Inv.kept{t':Nat}(I:Inv X pins σ H s)(k:∀ b u,s.heap.get? b=some u->h'.get? b=some u):Inv X pins σ H { s with heap:=h',toks:=t' }:=I.un (Un.kept k) (I.hok.kept k)
theorem Inv.laid{a:Addr}{o:HO}{t':Nat}(I:Inv X pins σ H s)(k:∀ b u,s.heap.get? b=some u->h'.get? b=some u)(hp:s.heap.objs.size<=a)(new:fP X.prog X.w (upd H a o) h' a o):
  Inv X pins σ (upd H a o) { s with heap:=h',toks:=t' }:=I.un (Un.laid k hp (I.hok.fresh hp)) (I.hok.laid k hp new)
theorem Inv.write{x e:Addr}{o:HO}{t':Nat}(I:Inv X pins σ H s)(mu:Mut (H x))(he:e=x \/ H e=some (.own x))(k:∀ b u,b≠e->s.heap.get? b=some u->h'.get? b=some u)(heo:∃ u,h'.get? e=some u)
  (new:fP X.prog X.w (upd H x o) h' x o):Inv X pins σ (upd H x o) { s with heap:=h',toks:=t' }:=I.un (Un.write mu he k heo) (I.hok.write mu he k heo new)
theorem Inv.wR{pins':List (Addr×Obj)}(I:Inv X pins σ H s)(h:∀ p∈pins',s.heap.get? p.1=some p.2 /\ H p.1=none /\ p.1≠X.env.locals /\ p.1∉X.fs /\ ∀ v,p.2.data≠.cell v):Inv X pins' σ H s:=
 ⟨I.ok,I.os,I.bare,I.base,I.loc,I.cell,I.free,I.freeC,fun p hp=>(List.mem_append.mp hp).elim (fun z=>I.pin p (List.mem_append_left _ z)) (h p),I.hok,I.len⟩
theorem u7{N:List Str}(hN:N.Nodup){i j:Nat}{x:Str}(a:N[i]?=some x)(b:N[j]?=some x):i=j:=by
 obtain⟨h1,e1⟩:=List.getElem?_eq_some_iff.mp a;obtain⟨h2,e2⟩:=List.getElem?_eq_some_iff.mp b
 exact(List.getElem_inj hN).mp (e1.trans e2.symm)
theorem xB{M:Model}{A:Around}{E:Value->Shared->Prop}{i:Nat}{x:Str}{v:V}{u:Value}{Q:Unit->Shared->Prop}(I:Inv X pins σ H s)(hN:X.N.Nodup)(hi:X.N[i]?=some x)(hx:Loc X.env.scope x)(r:RelV v u)
  (h:∀ s',Inv X pins (σ.set i (some v)) H s'->(∃ a,Heap.SameBut a s.heap s'.heap /\ (a=X.env.locals \/ X.env.cells.lookup x=some a))->Q () s') (hf:X.fn x=true \/ X.env.scope.names.lookup x=some .local:=by first|exact .inl rfl|exact .inr rfl|assumption):wpAny M A (storeName X.env x u) Q E s:=by
 obtain⟨m,hn,hl⟩:=id I.loc
 have hcls:(X.env.scope.kind == .class||(X.env.scope.kind == .module&&X.env.locals != X.env.globals))=false:=by rw[I.ok.kind];rfl
 have hiσ:i<σ.length:=by rw[I.len];exact(List.getElem?_eq_some_iff.mp hi).1
 have cne:=I.cne
 have tracked:∀{a:Addr} {h':Heap},(∃ o,s.heap.get? a=some o /\ H a=none)->Heap.SameBut a s.heap h'->HOk X.prog X.w H h':=fun {a h'} ha hs b ob e=>by
  obtain⟨_,_,hfree⟩:=ha
  refine(I.hok b ob e).m3 (fun c w' hc q=>(hs.2 c ?_).trans q) (fun _ q=>q) fun _ _ q=>q
  rintro rfl
  rcases hc with rfl|hc
  . rw[hfree]at e;cases e
  . rw[hfree]at hc;cases hc
 rcases hx with hk|hk
 . refine wpAny_storeName_local hk hn (fun h' hn' hs=>?_) hcls;obtain⟨oL,_,_,hoL,_⟩:=id hn;refine h _ ⟨I.ok,I.os,I.bare,⟨fun b o e n hb hx=>?_,fun b o e n hb hx=>?_,I.base.free,fun b o e hx=>?_,I.base.tups,I.base.frzs,I.base.tbls⟩,⟨_,hn',fun j y v' e1 e2 e3=>?_⟩,fun y c e=>?_,I.free,I.freeC,fun p hp=>?_,tracked ⟨oL,hoL,I.free⟩ hs,by simpa using I.len⟩ ⟨_,hs,.inl rfl⟩
   . exact(hs.2 b (Nat.ne_of_lt (Nat.lt_of_lt_of_le (Heap.lt_size e) I.ok.above))).trans (I.base.keep b o e n hb hx)
   . obtain⟨sl,e1⟩:=I.base.slot b o e n hb hx
     exact⟨sl,(hs.2 b (Nat.ne_of_lt (Nat.lt_of_lt_of_le (Heap.lt_size e) I.ok.above))).trans e1⟩
   . obtain⟨o',e1⟩:=I.base.there b o e hx
     exact⟨o',(hs.2 b (Nat.ne_of_lt (Nat.lt_of_lt_of_le (Heap.lt_size e) I.ok.above))).trans e1⟩
   . by_cases hj:j=i
     . subst hj;rw[hi]at e1;cases e1;rw[List.getElem?_set_self hiσ]at e2;cases e2
       exact⟨u,r,.inl ⟨hk,by simp⟩⟩
     . rw[List.getElem?_set_ne (Ne.symm hj)]at e2;obtain⟨u',r',q⟩:=hl j y v' e1 e2 e3
       refine⟨u',r',?_⟩
       rcases q with⟨k,e⟩|⟨k,c,e,z⟩
       . refine .inl ⟨k,?_⟩
         have:y≠x:=fun e=>hj (u7 hN e1 (e ▸ hi))
         simp[this,e]
       . exact .inr ⟨k,c,e,z.sameBut hs (cne y c e)⟩
   . obtain⟨w',z⟩:=I.cell y c e
     exact⟨w',z.sameBut hs (cne y c e)⟩
   . obtain⟨e,n,ne,nf,d⟩:=I.pin p hp
     exact⟨(hs.2 p.1 ne).trans e,n,ne,nf,d⟩
 . have hfn:X.fn x = true:=by
    rcases hf with z|z
    . exact z
    . rw[z]at hk;cases hk
   obtain⟨c,hc⟩:=I.ok.has x (.inl hk);obtain⟨w',z⟩:=I.cell x c hc;refine wpAny_storeName_cell I.ok.kind hk hc z (fun h' hc' hs=>?_);obtain⟨oc,hoc,hocd⟩:=id z;refine h { s with heap:=h' } ⟨I.ok,I.os,I.bare,⟨fun b o e n hb hx=>?_,fun b o e n hb hx=>?_,I.base.free,fun b o e hx=>?_,I.base.tups,I.base.frzs,I.base.tbls⟩,⟨m,hn.sameBut hs (Ne.symm (cne x c hc)),fun j y v' e1 e2 e3=>?_⟩,fun y c' e=>?_,I.free,I.freeC,fun p hp=>?_,tracked ⟨oc,hoc,I.freeC x c hc⟩ hs,by simpa using I.len⟩ ⟨c,hs,.inr hc⟩
   . exact(hs.2 b (Nat.ne_of_lt (Nat.lt_of_lt_of_le (Heap.lt_size e) (I.ok.cab x c hfn hc)))).trans (I.base.keep b o e n hb hx)
   . obtain⟨sl,e1⟩:=I.base.slot b o e n hb hx
     exact⟨sl,(hs.2 b (Nat.ne_of_lt (Nat.lt_of_lt_of_le (Heap.lt_size e) (I.ok.cab x c hfn hc)))).trans e1⟩
   . obtain⟨o',e1⟩:=I.base.there b o e hx
     exact⟨o',(hs.2 b (Nat.ne_of_lt (Nat.lt_of_lt_of_le (Heap.lt_size e) (I.ok.cab x c hfn hc)))).trans e1⟩
   . by_cases hj:j=i
     . subst hj;rw[hi]at e1;cases e1;rw[List.getElem?_set_self hiσ]at e2;cases e2
       exact⟨u,r,.inr ⟨.inl hk,c,hc,hc'⟩⟩
     . rw[List.getElem?_set_ne (Ne.symm hj)]at e2;obtain⟨u',r',q⟩:=hl j y v' e1 e2 e3
       refine⟨u',r',?_⟩
       rcases q with q|⟨k,c',e,z'⟩
       . exact .inl q
       . refine .inr ⟨k,c',e,z'.sameBut hs ?_⟩
         rintro rfl
         exact hj (u7 hN e1 (I.ok.inj _ _ _ e hc ▸ hi))
   . by_cases hcc:c'=c
     . subst hcc;exact⟨_,hc'⟩
     . obtain⟨w2,z2⟩:=I.cell y c' e
       exact⟨w2,z2.sameBut hs hcc⟩
   . obtain⟨e,n,ne,nf,d⟩:=I.pin p hp
     refine⟨(hs.2 p.1 ?_).trans e,n,ne,nf,d⟩
     intro q;rw[q,hoc]at e
     have q':oc=p.2:=Option.some.inj e
     exact d w' (by rw[<- q'];exact hocd)
theorem iO{M:Model}{A:Around}{E:Value->Shared->Prop}{i:Nat}{x:Str}{v:V}{u:Value}{Q:Unit->Shared->Prop}(I:Inv X pins σ H s)(hN:X.N.Nodup)(hi:X.N[i]?=some x)(hx:Loc X.env.scope x)(r:RelV v u)
  (h:∀ s',Inv X pins (σ.set i (some v)) H s'->Q () s') (hf:X.fn x=true \/ X.env.scope.names.lookup x=some .local:=by first|exact .inl rfl|exact .inr rfl|assumption):wpAny M A (storeName X.env x u) Q E s:=
 xB I hN hi hx r (fun s' I' _=>h s' I') hf
theorem Inv.B7{s':Shared}{ch:List Addr}(I:Inv X pins σ H s)(ho:s'.os=s.os)(u:Un (frs X.stack) ch H H' s.heap s'.heap)(hok:HOk X.prog X.w H' s'.heap)(hg:AllBare s'.gens)
  (hch:∀ b∈ch,(b∈X.ex \/ X.s₀.heap.objs.size<=b) /\ b≠X.env.locals /\ (∀ x c,X.env.cells.lookup x=some c->c≠b) /\ ∀ p∈X.pn++pins,p.1≠b):Inv X pins σ H' s':=by
 obtain⟨h',g',d',t',o'⟩:=s'
 have e:o'=s.os:=ho
 subst e;exact I.call (g':=g') (t':=t') (d':=d') u hok hg hch
end
abbrev XK:=Value->Option Addr->Hp->Prop
abbrev St:=List (Option V)
abbrev VK:=V->Hp->Prop
abbrev TE:=St->Hp->VK->Prop
abbrev TT:=St->Hp->(Bool->Hp->Prop)->Prop
abbrev TA:=St->Hp->(List V->Hp->Prop)->Prop
structure Ends where
 nx:St->Hp->Prop
 rt:VK
 bk:St->Hp->Prop:=fun _ _=>False
 ct:St->Hp->Prop:=fun _ _=>False
abbrev TS:=Ends->St->Hp->Prop
noncomputable def EP(X:Cx)(pins:List (Addr×Obj))(σ:St)(Q:VK)(u:Value)(s':Shared):Prop:=∃ v H',Inv X pins σ H' s' /\ RelV v u /\ Q v H'
noncomputable def TP(X:Cx)(pins:List (Addr×Obj))(σ:St)(Q:Bool->Hp->Prop)(b:Bool)(s':Shared):Prop:=∃ H',Inv X pins σ H' s' /\ Q b H'
noncomputable def AP(X:Cx)(pins:List (Addr×Obj))(σ:St)(Q:List V->Hp->Prop)(us:List Value)(s':Shared):Prop:=∃ vs H',Inv X pins σ H' s' /\ Vals vs us /\ Q vs H'
noncomputable def SP(X:Cx)(pins:List (Addr×Obj))(D:Ends)(f:Flow)(s':Shared):Prop:=
 match f with
 |.next=>∃ σ' H',Inv X pins σ' H' s' /\ D.nx σ' H'
 |.brk=>∃ σ' H',Inv X pins σ' H' s' /\ D.bk σ' H'
 |.cont=>∃ σ' H',Inv X pins σ' H' s' /\ D.ct σ' H'
 |.ret u=>∃ v σ' H',Inv X pins σ' H' s' /\ RelV v u /\ D.rt v H'
noncomputable def PE(X:Cx)(e:Expr)(t:TE):Prop:=
 ∀(pins:List (Addr×Obj)) (s:Shared) (σ:St) (H:Hp) (Q:VK),Inv X pins σ H s->t σ H Q->wpAny (model X.prog X.w) X.A (eval e X.env) (EP X pins σ Q) X.xe s
noncomputable def PT(X:Cx)(e:Expr)(t:TT):Prop:=
 ∀(pins:List (Addr×Obj)) (s:Shared) (σ:St) (H:Hp) (Q:Bool->Hp->Prop),Inv X pins σ H s->t σ H Q->wpAny (model X.prog X.w) X.A (isTrue e X.env (eval e X.env)) (TP X pins σ Q) X.xe s
noncomputable def PW(X:Cx)(e:Expr)(t:TT):Prop:=
 ∀(whole:Sem Value) (pins:List (Addr×Obj)) (s:Shared) (σ:St) (H:Hp) (Q:Bool->Hp->Prop),Inv X pins σ H s->t σ H Q->wpAny (model X.prog X.w) X.A (isTrue e X.env whole) (TP X pins σ Q) X.xe s
theorem PW.pt{X:Cx}{e:Expr}{t:TT}(h:PW X e t):PT X e t:=h _
noncomputable def PA(X:Cx)(es:List Expr)(t:TA):Prop:=
 ∀(pos:Pos) (pins:List (Addr×Obj)) (s:Shared) (σ:St) (H:Hp) (Q:List V->Hp->Prop),Inv X pins σ H s->t σ H Q->wpAny (model X.prog X.w) X.A (spliced (backTo pos (starEach es X.env))) (AP X pins σ Q) X.xe s
noncomputable def PS(X:Cx)(st:Stmt)(t:TS):Prop:=
 ∀(pins:List (Addr×Obj)) (s:Shared) (σ:St) (H:Hp) (D:Ends),Inv X pins σ H s->t D σ H->wpAny (model X.prog X.w) X.A (exec st X.env) (SP X pins D) X.xe s
noncomputable def PSs(X:Cx)(st:List Stmt)(t:TS):Prop:=
 ∀(pins:List (Addr×Obj)) (s:Shared) (σ:St) (H:Hp) (D:Ends),Inv X pins σ H s->t D σ H->wpAny (model X.prog X.w) X.A (execs st X.env) (SP X pins D) X.xe s
theorem thn{α:Type}{t:Sem α}{Q Q':α->Shared->Prop}{M:Model}{A:Around}{E:Value->Shared->Prop}{s:Shared}(h:wpAny M A t Q E s)(hQ:∀ a s,Q a s->Q' a s):wpAny M A t Q' E s:=wpAny_mono h hQ fun _ _ x=>x
section
variable{X:Cx}
theorem bin{a b:Expr}{ta tb:TE}(ha:PE X a ta)(hb:PE X b tb){pins:List (Addr×Obj)}{s:Shared}{σ:St}{H:Hp}{R:V->V->Hp->Prop}(I:Inv X pins σ H s)(h:ta σ H fun x H1=>tb σ H1 fun y H2=>R x y H2)
  {α:Type} {Q:α->Shared->Prop} {f:Value->Value->Sem α}
  (hf:∀ v u s2 x y H2,Inv X pins σ H2 s2->RelV x v->RelV y u->R x y H2->wpAny (model X.prog X.w) X.A (f v u) Q X.xe s2):
  wpAny (model X.prog X.w) X.A (eval a X.env) (fun v s₁=>wpAny (model X.prog X.w) X.A (eval b X.env) (fun u s₂=>wpAny (model X.prog X.w) X.A (f v u) Q X.xe s₂) X.xe s₁) X.xe s:=by
 refine thn (ha pins s σ H _ I h) fun v s1 ⟨x,H1,I1,r1,q1⟩=>?_
 refine thn (hb pins s1 σ H1 _ I1 q1) fun u s2 ⟨y,H2,I2,r2,q2⟩=>?_
 exact hf v u s2 x y H2 I2 r1 r2 q2
noncomputable def vd(i:Nat):TE:=fun σ H Q=>∃ v,σ[i]?=some (some v) /\ Q v H
noncomputable def tC(v:V):TE:=fun _ H Q=>Q v H
theorem Em{i:Nat}{x:Str}{pos:Pos}(hN:X.N[i]?=some x)(hv:Vis X.env.scope x)(hd:(x==("__debug__":Str))=false:=by decide)(hcd:(x==("__classdict__":Str))=false:=by decide):PE X (.Name x pos) (vd i):=by
 intro pins s σ H Q I h;obtain⟨v,e,h⟩:=h;obtain⟨m,hn,hl⟩:=I.loc;obtain⟨u,r,l⟩:=hl i x v hN e hv
 have fin:EP X pins σ Q u s:=⟨v,H,I,r,h⟩
 rcases l with⟨hk,hm⟩|⟨hk,c,hc,hcell⟩
 . exact wpAny_Name (wpAny_loadName_local I.ok.kind hk hn hm fin) hd
 . rcases hk with hk|hk
   . exact wpAny_Name (wpAny_loadName_cell I.ok.kind hk hc hcell fin) hd
   . exact wpAny_Name (wpAny_loadName_free I.ok.kind hk hc hcell fin hcd) hd
theorem Dm{i j pos}:PE X (.Constant (.int i) j pos) (tC (.int i)):=fun _ _ _ H _ I h=>wpAny_Constant_int ⟨.int i,H,I.tok _,⟨_,rfl⟩,h⟩
theorem EJ{b j pos}:PE X (.Constant (.bool b) j pos) (tC (.bl b)):=fun _ _ _ H _ I h=>Constant_bool ⟨.bl b,H,I,rfl,h⟩
theorem Ed{j pos}:PE X (.Constant .none j pos) (tC .non):=fun _ _ _ H _ I h=>Constant_none ⟨.non,H,I,rfl,h⟩
theorem Dw{x j pos}:PE X (.Constant (.str x) j pos) (tC (.str x)):=fun _ _ _ H _ I h=>Calls.Constant_str ⟨.str x,H,I.tok _,⟨_,rfl⟩,h⟩
noncomputable def Gl(X:Cx)(x:Str):Prop:=X.env.kindOf x=some .globalImplicit
theorem AS{E:Value->Shared->Prop}{pins:List (Addr×Obj)}{s:Shared}{σ:St}{H:Hp}{x:Str}{u:Value}{pos:Pos}{Q:Value->Shared->Prop}(I:Inv X pins σ H s)(hg:Gl X x)(hm:X.mg x=some u)(h:Q u s)
  (hd:(x==("__debug__":Str))=false:=by decide):wpAny (model X.prog X.w) X.A (eval (.Name x pos) X.env) Q E s:=
 Calls.Name_function_global I.ok.kind hg (Calls.loadGlobal_global (by rw[I.ok.glob];exact I.mod.glob.keeps I.bk) hm h) hd
theorem tK{E:Value->Shared->Prop}{pins:List (Addr×Obj)}{s:Shared}{σ:St}{H:Hp}{x:Str}{u:Value}{pos:Pos}{Q:Value->Shared->Prop}(I:Inv X pins σ H s)(hg:Gl X x)(hm:X.mg x=none)(hv:bootBuiltins x=some u)(h:Q u s)
  (hn:x ≠ "__name__":=by decide) (hd:(x==("__debug__":Str))=false:=by decide):wpAny (model X.prog X.w) X.A (eval (.Name x pos) X.env) Q E s:=by
 obtain⟨mb,h1,h2⟩:=I.mod.blt;exact Calls.Name_function_global I.ok.kind hg (Calls.loadGlobal_builtin (by rw[I.ok.glob];exact I.mod.glob.keeps I.bk) hm (by rw[I.ok.blt];exact h1.keeps I.bk) ((h2 x hn).trans hv) h) hd
theorem Bl{x:Str}{v:V}{u:Value}{pos:Pos}(hg:Gl X x)(hm:X.mg x=none)(hv:bootBuiltins x=some u)(r:RelV v u)(hn:x ≠ "__name__":=by decide)(hd:(x==("__debug__":Str))=false:=by decide):PE X (.Name x pos) (tC v):=
 fun _ _ _ H _ I h=>tK I hg hm hv ⟨v,H,I,r,h⟩ hn hd
variable{a b:Expr}{ta tb:TE}{pos:Pos}
noncomputable def PC(X:Cx)(op:CmpOp)(a b:Expr)(t:TE):Prop:=
 ∀(pins:List (Addr×Obj)) (s:Shared) (σ:St) (H:Hp) (Q:VK),Inv X pins σ H s->t σ H Q ->
   wpAny (model X.prog X.w) X.A (eval a X.env) (fun v s₁=>wpAny (model X.prog X.w) X.A (eval b X.env) (fun u s₂=>wpAny (model X.prog X.w) X.A (compareOp op v u) (EP X pins σ Q) X.xe s₂) X.xe s₁) X.xe s
variable{tA tB':TT}{rest:List Expr}
noncomputable def Di(t u:TT):TT:=fun σ H Q=>t σ H fun c H1=>if c=true then u σ H1 Q else Q false H1
noncomputable def tOr(t u:TT):TT:=fun σ H Q=>t σ H fun c H1=>if c=true then Q true H1 else u σ H1 Q
noncomputable def D8(t:TT):TT:=fun σ H Q=>t σ H fun c H1=>Q (!c) H1
theorem Be(ha:PT X a tA):PW X (.BoolOp .And [a] pos) tA:=by
 intro wh pins s σ H Q I h;refine isTrue_and (thn (ha pins s σ H Q I h) fun c s1 e=>?_)
 cases c with
 |true=>exact isTrue_and_nil e
 |false=>exact e
theorem D2(ha:PT X a tA):PW X (.BoolOp .Or [a] pos) tA:=by
 intro wh pins s σ H Q I h;refine isTrue_or (thn (ha pins s σ H Q I h) fun c s1 e=>?_)
 cases c with
 |false=>exact isTrue_or_nil e
 |true=>exact e
theorem En(ha:PT X a tA)(hb:PW X (.BoolOp .And (b ::rest) pos) tB'):PW X (.BoolOp .And (a ::b ::rest) pos) (Di tA tB'):=by
 intro wh pins s σ H Q I h;refine isTrue_and (thn (ha pins s σ H _ I h) fun c s1 ⟨H1,I1,q1⟩=>?_)
 cases c with
 |true=>exact hb wh pins s1 σ H1 Q I1 q1
 |false=>exact⟨H1,I1,q1⟩
theorem E2(ha:PT X a tA)(hb:PW X (.BoolOp .Or (b ::rest) pos) tB'):PW X (.BoolOp .Or (a ::b ::rest) pos) (tOr tA tB'):=by
 intro wh pins s σ H Q I h;refine isTrue_or (thn (ha pins s σ H _ I h) fun c s1 ⟨H1,I1,q1⟩=>?_)
 cases c with
 |true=>exact⟨H1,I1,q1⟩
 |false=>exact hb wh pins s1 σ H1 Q I1 q1
theorem C9(ha:PT X a tA):PT X (.UnaryOp .Not a pos) (D8 tA):=by
 intro pins s σ H Q I h;exact isTrue_not (ha pins s σ H (fun c H1=>Q (!c) H1) I h)
noncomputable def yP(ta tb:TE):TE:=fun σ H Q=>ta σ H fun x H1=>∃ c,x=.bl c /\ if c=true then tb σ H1 Q else Q (.bl false) H1
theorem DV{op}{t:TE}(h:PE X a t):PE X (.BoolOp op [a] pos) t:=fun pins s σ H Q I hw=>BoolOp_one (h pins s σ H Q I hw)
theorem CQ(ha:PE X a ta)(hb:PE X (.BoolOp .And (b ::rest) pos) tb):PE X (.BoolOp .And (a ::b ::rest) pos) (yP ta tb):=by
 intro pins s σ H Q I h;refine BoolOp_and (thn (ha pins s σ H _ I h) fun v s1 ⟨x,H1,I1,r1,q1⟩=>?_);obtain⟨c,rfl,q1⟩:=q1;cases r1;refine wpAny_truthy_bool ?_
 cases c with
 |true=>exact hb pins s1 σ H1 Q I1 q1
 |false=>exact⟨.bl false,H1,I1,rfl,q1⟩
noncomputable def tIf(t:TT)(ta tb:TE):TE:=fun σ H Q=>t σ H fun c H1=>if c=true then ta σ H1 Q else tb σ H1 Q
theorem yu{c:Expr}(hc:PT X c tA)(ha:PE X a ta)(hb:PE X b tb):PE X (.IfExp c a b pos) (tIf tA ta tb):=by
 intro pins s σ H Q I h;refine wpAny_IfExp (thn (hc pins s σ H _ I h) fun d s1 ⟨H1,I1,q1⟩=>?_)
 cases d with
 |true=>exact ha pins s1 σ H1 Q I1 q1
 |false=>exact hb pins s1 σ H1 Q I1 q1
end
noncomputable def SqL(K:PySem.W.Frag)(H:Hp)(a:Addr)(xs:List V):Prop:=
 Rd H a (.lst xs) \/
  ∃(o:Obj) (its:Array Value) (n:Nat),K.lookup a=some o /\ o.cls=.type "list" /\ o.dict=none /\ o.data=.seq its n /\ its.size<=sizeLine /\ Vals xs its.toList
noncomputable def SqT(K:PySem.W.Frag)(H:Hp)(a:Addr)(xs:List V):Prop:=
 Rd H a (.tup xs) \/
  ∃(o:Obj) (its:Array Value) (n:Nat),K.lookup a=some o /\ (o.cls=.type "tuple" /\ o.dict=none) /\ o.data=.seq its n /\ its.size<=sizeLine /\ Vals xs its.toList
noncomputable def Gj:Value->Option V
 |.none=>some .non
 |.bool b=>some (.bl b)
 |.int i _=>some (.int i)
 |.str x _=>some (.str x)
 |.bytes b _=>some (.byt b)
 |.float b _=>some (.flt b)
 |.ref a=>some (.ref a)
 |.type n=>some (.ty n)
 |_=>none
theorem RelV.abs{x:V}{u:Value}(r:RelV x u):Gj u=some x:=by
 cases x with
 |non=>cases r;rfl
 |bl _=>cases r;rfl
 |int _=>obtain⟨t,rfl⟩:=r;rfl
 |str _=>obtain⟨t,rfl⟩:=r;rfl
 |byt _=>obtain⟨t,rfl⟩:=r;rfl
 |flt _=>obtain⟨t,rfl⟩:=r;rfl
 |ref _=>cases r;rfl
 |ty _=>cases r;rfl
theorem RelV.inj{x y:V}{u:Value}(r:RelV x u)(q:RelV y u):x=y:=Option.some.inj (r.abs.symm.trans q.abs)
theorem Vals.inj:∀{xs ys:List V} {us:List Value},Vals xs us->Vals ys us->xs=ys
 |_,_,_,.nil,.nil=>rfl
 |_,_,_,.cons r t,.cons r' t'=>by rw[r.inj r',Vals.inj t t']
section
variable{X:Cx}{pins:List (Addr×Obj)}{σ:St}{H:Hp}{s:Shared}{a:Addr}{xs ys:List V}
theorem Inv.list(I:Inv X pins σ H s)(h:SqL X.K H a xs):∃ its:List Value,Vals xs its /\ PlainL s.heap a its.toArray /\ xs.length<=sizeLine:=by
 rcases h with h|⟨o,its,n,hk,hc,hd,hs,hz,r⟩
 . obtain⟨z,its,n,r,e⟩:=h.ok I.hok
   exact⟨its,r,⟨_,n,e,rfl,rfl,rfl⟩,z⟩
 . refine⟨its.toList,r,⟨o,n,I.kIn a o hk,hc,hd,by simpa using hs⟩,?_⟩
   have e:=r.length;simp only[Array.length_toList]at e;omega
theorem Inv.tuple(I:Inv X pins σ H s)(h:SqT X.K H a xs):∃ its:List Value,Vals xs its /\ IsTup s.heap a its.toArray /\ xs.length<=sizeLine:=by
 rcases h with h|⟨o,its,n,hk,hc,hs,hz,r⟩
 . obtain⟨z,its,r,p⟩:=h.ok I.hok
   exact⟨its,r,p,z.1⟩
 . refine⟨its.toList,r,⟨o,I.kIn a o hk,hc.1,n,by simpa using hs⟩,?_⟩
   have e:=r.length;simp only[Array.length_toList]at e;omega
theorem Inv.noD(I:Inv X pins σ H s)(h:SqT X.K H a xs):NoD s.heap a:=by
 rcases h with h|⟨o,its,n,hk,hc,_⟩
 . exact(h.ok I.hok).1.2
 . exact .of (I.kIn a o hk) hc.2
theorem Inv.zD(I:Inv X pins σ H s)(h:SqL X.K H a xs)(h':SqL X.K H a ys):xs=ys:=by
 obtain⟨its,r,⟨o,n,e,_,_,d⟩,_⟩:=I.list h;obtain⟨its',r',⟨o',n',e',_,_,d'⟩,_⟩:=I.list h';rw[e]at e';cases e';rw[d]at d'
 injection d' with d1 _
 have:its=its':=by simpa using congrArg Array.toList d1
 subst this;exact r.inj r'
theorem Inv.yc(I:Inv X pins σ H s)(h:SqT X.K H a xs)(h':SqT X.K H a ys):xs=ys:=by
 obtain⟨its,r,⟨o,e,_,n,d⟩,_⟩:=I.tuple h;obtain⟨its',r',⟨o',e',_,n',d'⟩,_⟩:=I.tuple h';rw[e]at e';cases e';rw[d]at d'
 injection d' with d1 _
 have:its=its':=by simpa using congrArg Array.toList d1
 subst this;exact r.inj r'
end
section
variable{X:Cx}{st:Stmt}{rest:List Stmt}{t u:TS}{e:Expr}{te:TE}{pos:Pos}
noncomputable def zF:TS:=fun D σ H=>D.nx σ H
noncomputable def Ek(t u:TS):TS:=fun D σ H=>t { D with nx:=u D } σ H
theorem Bk:PSs X [] zF:=fun _ _ σ H _ I h=>wpAny_execs_nil ⟨σ,H,I,h⟩
theorem zN(h1:PS X st t)(h2:PSs X rest u):PSs X (st ::rest) (Ek t u):=by
 intro pins s σ H D I h;refine wpAny_execs_cons (thn (h1 pins s σ H { D with nx:=u D } I h) fun f s1 q=>?_)
 cases f with
 | next=>
   obtain⟨σ',H',I',q⟩:=q;exact h2 pins s1 σ' H' D I' q
 |ret v=>exact q
 |brk=>exact q
 |cont=>exact q
theorem Bw(h1:PS X st t):PSs X [st] t:=by
 intro pins s σ H D I h;refine wpAny_execs_cons (thn (h1 pins s σ H D I h) fun f s1 q=>?_)
 cases f with
 |next=>exact wpAny_execs_nil q
 |ret v=>exact q
 |brk=>exact q
 |cont=>exact q
theorem Inv.quiet{pins:List (Addr×Obj)}{σ:St}{H:Hp}{s:Shared}(I:Inv X pins σ H s):interactive X.env=false:=by simp[interactive,I.ok.kind]
noncomputable def qU(te:TE):TS:=fun D σ H=>te σ H fun _ H1=>D.nx σ H1
theorem Bj(he:PE X e te)(hs:swapsWith e none pos.line X.env=pure false:=by rfl):PS X (.Expr e pos) (qU te):=by
 intro pins s σ H D I h;exact wpAny_Expr_any (thn (he pins s σ H _ I h) fun v s1 ⟨x,H1,I1,r1,q1⟩=>⟨σ,H1,I1,q1⟩) I.quiet hs
noncomputable def xS(te:TE):TS:=fun D σ H=>te σ H D.rt
theorem C8(he:PE X e te):PS X (.Return (some e) pos) (xS te):=by
 intro pins s σ H D I h;exact wpAny_Return_some (thn (he pins s σ H _ I h) fun v s1 ⟨x,H1,I1,r1,q1⟩=>⟨x,σ,H1,I1,r1,q1⟩)
noncomputable def Eo(c:TT)(t u:TS):TS:=fun D σ H=>c σ H fun b H1=>if b=true then t D σ H1 else u D σ H1
theorem E4{c:Expr}{a b:List Stmt}{tc:TT}(hc:PT X c tc)(ha:PSs X a t)(hb:PSs X b u):PS X (.If c a b pos) (Eo tc t u):=by
 intro pins s σ H D I h;refine wpAny_If (thn (hc pins s σ H _ I h) fun d s1 ⟨H1,I1,q1⟩=>?_)
 cases d with
 |true=>exact ha pins s1 σ H1 D I1 q1
 |false=>exact hb pins s1 σ H1 D I1 q1
end
abbrev TG:=V->St->Hp->(St->Hp->Prop)->Prop
abbrev TGs:=List V->St->Hp->(St->Hp->Prop)->Prop
noncomputable def PG(X:Cx)(target:Expr)(t:TG):Prop:=
 ∀(pins:List (Addr×Obj)) (s:Shared) (σ:St) (H:Hp) (v:V) (u:Value) (Q:St->Hp->Prop),Inv X pins σ H s->RelV v u->t v σ H Q ->
   wpAny (model X.prog X.w) X.A (assign target X.env u) (fun _ s'=>∃ σ' H',Inv X pins σ' H' s' /\ Q σ' H') X.xe s
noncomputable def PGs(X:Cx)(ts:List Expr)(t:TGs):Prop:=
 ∀(pins:List (Addr×Obj)) (s:Shared) (σ:St) (H:Hp) (vs:List V) (us:List Value) (Q:St->Hp->Prop),Inv X pins σ H s->Vals vs us->t vs σ H Q ->
   wpAny (model X.prog X.w) X.A (assignInOrder ((assignEach ts X.env).map (·.2)) us) (fun _ s'=>∃ σ' H',Inv X pins σ' H' s' /\ Q σ' H') X.xe s
section
variable{X:Cx}{pos:Pos}
noncomputable def iw(i:Nat):TG:=fun v σ H Q=>Q (σ.set i (some v)) H
theorem AW{i:Nat}{x:Str}(hN:X.N.Nodup)(hi:X.N[i]?=some x)(hx:Loc X.env.scope x)(hf:X.fn x=true \/ X.env.scope.names.lookup x=some .local:=by first|exact .inl rfl|exact .inr rfl|assumption):PG X (.Name x pos) (iw i):=by
 intro pins s σ H v u Q I r h;exact wpAny_assign_Name (iO I hN hi hx r (fun s' I'=>⟨_,H,I',h⟩) hf)
noncomputable def CT:TGs:=fun vs σ H Q=>vs=[] /\ Q σ H
noncomputable def wV(t:TG)(u:TGs):TGs:=fun vs σ H Q=>∃ v r,vs=v ::r /\ t v σ H fun σ' H'=>u r σ' H' Q
theorem BH:PGs X [] CT:=by
 intro pins s σ H vs us Q I r h;obtain⟨e,h⟩:=h;subst e;cases r;exact assignInOrder_nil ⟨σ,H,I,h⟩
theorem y7{e:Expr}{es:List Expr}{t:TG}{u:TGs}(h1:PG X e t)(h2:PGs X es u)
  (hs:(assignEach (e ::es) X.env).map (·.2)=assign e X.env ::(assignEach es X.env).map (·.2):=by rfl):PGs X (e ::es) (wV t u):=by
 intro pins s σ H vs us Q I r h;obtain⟨v,vr,e1,h⟩:=h;subst e1
 cases r with
 | cons r rr=>
   rw[hs];refine assignInOrder_cons (thn (h1 pins s σ H _ _ _ I r h) fun _ s1 ⟨σ1,H1,I1,q1⟩=>?_);exact h2 pins s1 σ1 H1 _ _ Q I1 rr q1
noncomputable def Eh(K:PySem.W.Frag)(n:Nat)(t:TGs):TG:=fun v σ H Q=>∃ a xs,v=.ref a /\ SqT K H a xs /\ xs.length=n /\ t xs σ H Q
theorem CY{es:List Expr}{k:Nat}{t:TGs}{n:Nat}(hc:X.calm=true)(h:PGs X es t)
  (hn:(assignEach es X.env).length=n:=by rfl) (hst:(assignEach es X.env).findIdx? (·.1)=none:=by rfl):PG X (.Tuple es k pos) (Eh X.K n t):=by
 intro pins s σ H v u Q I r hw;obtain⟨a,xs,e1,hq,hl,hw⟩:=hw;subst e1;cases r;obtain⟨its,rv,ht,hz⟩:=I.tuple hq
 refine assign_Tuple_tuple (I.ok.hd hc) ht (by simp[hn,<- hl,rv.length]) hst fun h' hx=>?_
 have I1:Inv X pins σ H { s with heap:=h' }:=I.kept (t':=s.toks) fun b o e=>hx b o (Nat.ne_of_lt (Heap.lt_size e)) e
 exact h pins _ σ H xs _ Q I1 (by simpa using rv) hw
noncomputable def tD(te:TE)(g:TG):TS:=fun D σ H=>te σ H fun x H1=>g x σ H1 D.nx
theorem Ee{i:Nat}{x:Str}{e:Expr}{te:TE}{pos':Pos}(hN:X.N.Nodup)(hi:X.N[i]?=some x)(hx:Loc X.env.scope x)(he:PE X e te)(hs:swapsWith e (some (.Name x pos')) pos.line X.env=pure false:=by rfl)(hf:X.fn x=true \/ X.env.scope.names.lookup x=some .local:=by first|exact .inl rfl|exact .inr rfl|assumption):
  PS X (.Assign [.Name x pos'] e pos) (tD te (iw i)):=by
 intro pins s σ H D I h;refine wpAny_Assign_Name (thn (he pins s σ H _ I h) fun v s1 ⟨y,H1,I1,r1,q1⟩=>?_) hs;exact iO I1 hN hi hx r1 (fun s2 I2=>⟨_,H1,I2,q1⟩) hf
end
section
variable{X:Cx}{pos:Pos}
noncomputable def vY(c:TT)(tb:TS):TS:=fun D σ H=>∃ W:Nat->St->Hp->Prop,(∃ m,W m σ H) /\ ∀ m σ H,W m σ H ->
 c σ H fun b H1=>if b=true then ∃ N:St->Hp->Prop,(∀ σ' H',N σ' H'->∃ m',m'<m /\ W m' σ' H') /\ tb { D with nx:=N,ct:=N,bk:=D.nx } σ H1 else D.nx σ H1
theorem yw{c:Expr}{body:List Stmt}{tc:TT}{tb:TS}(hp:PassesOwn (model X.prog X.w) X.A X.env X.xe)(hc:PT X c tc)(hb:PSs X body tb):PS X (.While c body [] pos) (vY tc tb):=by
 intro pins s σ H D I h;obtain⟨W,⟨m0,w0⟩,turn⟩:=h;refine wpAny_While (codeAny_whileLoop (fun n s'=>∃ σ' H',Inv X pins σ' H' s' /\ W n σ' H') ?_ m0 ⟨σ,H,I,w0⟩)
 rintro n s1 ⟨σ1,H1,I1,w1⟩
 refine wpAny_passesOwn hp (thn (hc pins s1 σ1 H1 _ I1 (turn n σ1 H1 w1)) fun b s2 ⟨H2,I2,q2⟩=>?_)
 cases b with
 | true=>
   obtain⟨N,hN,q2⟩:=q2;rw[if_pos rfl];refine wpAny_passesOwn hp (thn (hb pins s2 σ1 H2 _ I2 q2) fun f s3 q3=>?_)
   cases f with
   | next=>
     obtain⟨σ3,H3,I3,n3⟩:=q3;obtain⟨m',hm,w3⟩:=hN σ3 H3 n3
     exact⟨m',hm,σ3,H3,I3,w3⟩
   | cont=>
     obtain⟨σ3,H3,I3,n3⟩:=q3;obtain⟨m',hm,w3⟩:=hN σ3 H3 n3
     exact⟨m',hm,σ3,H3,I3,w3⟩
   |brk=>exact q3
   |ret v=>exact q3
 | false=>
   rw[if_neg Bool.false_ne_true];exact wpAny_execs_nil ⟨σ1,H2,I2,q2⟩
end
structure It where
 go:Nat->Hp->Prop
 yld:Nat->Hp->V->Hp->Prop
 stop:Nat->Hp->Prop
noncomputable def kZ(X:Cx)(pins:List (Addr×Obj))(H:Hp)(b:Addr):Prop:=
 H b=none /\ b≠X.env.locals /\ b∉X.fs /\ (b∈X.ex \/ X.s₀.heap.objs.size<=b) /\ (∀ x c,X.env.cells.lookup x=some c->c≠b) /\ ∀ p∈X.pn++pins,p.1≠b
theorem Inv.wx{X:Cx}{pins:List (Addr×Obj)}{σ:St}{H H':Hp}{s:Shared}{b:Addr}(I:Inv X pins σ H s)(hb:s.heap.objs.size<=b)(hn:H' b=none):kZ X pins H' b:=by
 refine⟨hn,Nat.ne_of_gt (Nat.lt_of_lt_of_le I.lt hb),I.GH hb,.inr (Nat.le_trans I.sz hb),fun x c e z=>?_,fun p hp z=>?_⟩
 . obtain⟨v,q⟩:=I.cell x c e;exact absurd (Nat.lt_of_lt_of_le q.lt (by rw[z];exact hb)) (Nat.lt_irrefl _)
 . exact absurd (Nat.lt_of_lt_of_le (Heap.lt_size (I.pin p hp).1) (by rw[z];exact hb)) (Nat.lt_irrefl _)
structure Turn(P:Program)(w:World)(K:PySem.W.Frag)(tg:Expr)(J:It)(fp:List Addr)(it:Addr)(tn:Nat->Heap->Prop):Prop where
 mem:it∈fp
 obj:∀ i h,tn i h->∀ b∈fp,∃ o,h.get? b=some o /\ ∀ v,o.data≠.cell v
 keep:∀ i h h',tn i h->(∀ b∈fp,∀ o,h.get? b=some o->h'.get? b=some o)->tn i h'
 item:∀(X:Cx),X.prog=P->X.w=w->X.K=K->X.calm=true->∀(i:Nat) (pins:List (Addr×Obj)) (s:Shared) (σ:St) (H:Hp) (E:Value->Shared->Prop),Inv X pins σ H s->(∀ b∈fp,kZ X pins H b)->tn i s.heap->J.go i H ->
  wpAny (model P w) X.A (pyNext (.ref it)) (fun r s1=>∃ u,r=some u /\
   wpAny (model P w) X.A (letOwnedTupleGo tg (.ref it) u) (fun _ s2=>∃ x H',Inv X pins σ H' s2 /\ RelV x u /\ J.yld i H x H' /\ tn (i+1) s2.heap /\ ∀ b∈fp,H' b=none) E s1) E s
 done:∀(X:Cx),X.prog=P->X.w=w->X.K=K->X.calm=true->∀(i:Nat) (pins:List (Addr×Obj)) (s:Shared) (σ:St) (H:Hp) (E:Value->Shared->Prop),Inv X pins σ H s->(∀ b∈fp,kZ X pins H b)->tn i s.heap->J.stop i H ->
  wpAny (model P w) X.A (pyNext (.ref it)) (fun r s1=>r=none /\ Inv X pins σ H s1) E s
 self:∀(A:Around) (i:Nat) (s:Shared) (Q:Value->Shared->Prop) (E:Value->Shared->Prop),tn i s.heap->Q (.ref it) s->wpAny (model P w) A (pyIter (.ref it)) Q E s
abbrev TI:=St->Hp->(It->Hp->Prop)->Prop
noncomputable def PIE(X:Cx)(pins:List (Addr×Obj))(σ:St)(tg:Expr)(R:It->Hp->Prop)(itv:Value)(s2:Shared):Prop:=
 ∃(it:Addr) (fp:List Addr) (tn:Nat->Heap->Prop) (J:It) (H':Hp),itv=.ref it /\ Inv X pins σ H' s2 /\ Turn X.prog X.w X.K tg J fp it tn /\ tn 0 s2.heap /\ (∀ b∈fp,kZ X pins H' b) /\ R J H'
noncomputable def PI(X:Cx)(tg iter:Expr)(wi:TI):Prop:=
 ∀(pins:List (Addr×Obj)) (s:Shared) (σ:St) (H:Hp) (R:It->Hp->Prop),Inv X pins σ H s->wi σ H R ->
   wpAny (model X.prog X.w) X.A (eval iter X.env) (fun v s1=>wpAny (model X.prog X.w) X.A (pyIter v) (PIE X pins σ tg R) X.xe s1) X.xe s
theorem wX{M:Model}{A:Around}{E:Value->Shared->Prop}{s:Shared}{tg:Expr}{it:Addr}{u:Value}{o:Obj}{n:String}{vs:Array Value}{Q:Unit->Shared->Prop}(ho:s.heap.get? it=some o)(hc:o.cls=.type n)(hd:o.data=.fields vs)
  (hn:["enumerate","zip","dict_itemiterator","dict_reverseitemiterator","odict_iterator","itertools.zip_longest","itertools.pairwise"].contains n=false) (hQ:Q () s):wpAny M A (letOwnedTupleGo tg (.ref it) u) Q E s:=by
 unfold letOwnedTupleGo
 cases tg<;>first
  |exact wpAny_pure hQ
  | (cases u <;> first
      |exact wpAny_pure hQ
      | (refine wpAny_bind (wpAny_load ho ?_)
         rw[hc,hd];show wpAny M A (if(["enumerate","zip","dict_itemiterator","dict_reverseitemiterator","odict_iterator","itertools.zip_longest","itertools.pairwise"].contains n&&vs[0]?==some (rawInt _))=true then _ else _) Q E s;rw[if_neg (by intro h;rw[hn,Bool.false_and]at h;cases h)]
         exact wpAny_pure hQ))
noncomputable def Itl(K:PySem.W.Frag)(a:Addr):It:=
 ⟨fun i H=>∃ xs x,SqL K H a xs /\ xs[i]?=some x,fun i H x H'=>H'=H /\ ∀ xs,SqL K H a xs->xs[i]?=some x,fun i H=>∃ xs,SqL K H a xs /\ xs.length<=i⟩
noncomputable def Itt(K:PySem.W.Frag)(a:Addr):It:=
 ⟨fun i H=>∃ xs x,SqT K H a xs /\ xs[i]?=some x,fun i H x H'=>H'=H /\ ∀ xs,SqT K H a xs->xs[i]?=some x,fun i H=>∃ xs,SqT K H a xs /\ xs.length<=i⟩
noncomputable def Itr(lo:Int)(n:Nat):It:=⟨fun i _=>i<n,fun i H x H'=>H'=H /\ x=.int (lo+i),fun i _=>n<=i⟩
theorem yh{P:Program}{w:World}{K:PySem.W.Frag}{tg:Expr}(a it:Addr):Turn P w K tg (Itl K a) [it] it (fun i h=>h.IsListIter it a i) where
 mem:=by simp
 obj:=fun i h st b hb=>by
  have e:b=it:=by simpa using hb
  subst e;obtain⟨o,e,c,d⟩:=st
  exact⟨o,e,fun v z=>by rw[d]at z;cases z⟩
 keep:=fun i h h' st k=>st.at fun o e=>k it (by simp) o e
 item:=by
  intro X hP hw hK hc i pins s σ H E I hf st hg;subst hP hw hK;obtain⟨xs,x,hq,hx⟩:=hg;obtain⟨its,rv,p,hz⟩:=I.list hq;obtain⟨u,hu,ru⟩:=rv.get hx;obtain⟨f0,f1,f2,f3,f4,f5⟩:=hf it (by simp)
  refine wpAny_pyNext_list_item st p.isList (x:=u) (by simpa using hu) fun h' st' sb=>?_
  have I1:Inv X pins σ H { s with heap:=h' }:=I.turned (t':=s.toks) (fun b o hb e=>(sb.2 b hb).trans e) f0 f1 f3 f4 f5
  obtain⟨o,e,c,d⟩:=id st'
  exact⟨u,rfl,wX (s:={ s with heap:=h' }) e c d (by decide) ⟨x,H,I1,ru,⟨rfl,fun ys hy=>by rw[I.zD hy hq];exact hx⟩,st',fun b hb=>(hf b hb).1⟩⟩
 done:=by
  intro X hP hw hK hc i pins s σ H E I hf st hg;subst hP hw hK;obtain⟨xs,hq,hx⟩:=hg;obtain⟨its,rv,p,hz⟩:=I.list hq;obtain⟨f0,f1,f2,f3,f4,f5⟩:=hf it (by simp);have hl:=rv.length
  exact wpAny_pyNext_list_end (I.ok.hd hc) st p.isList (by simp;omega) fun h' eb=>⟨rfl,I.turned (t':=s.toks) (fun b o hb e=>eb b o hb e) f0 f1 f3 f4 f5⟩
 self:=fun _ _ _ _ _ st h=>wpAny_pyIter_listiter st h
theorem rm{P:Program}{w:World}{K:PySem.W.Frag}{tg:Expr}(a it:Addr):Turn P w K tg (Itt K a) [it] it (fun i h=>h.IsTupleIter it a i) where
 mem:=by simp
 obj:=fun i h st b hb=>by
  have e:b=it:=by simpa using hb
  subst e;obtain⟨o,e,c,d⟩:=st
  exact⟨o,e,fun v z=>by rw[d]at z;cases z⟩
 keep:=fun i h h' st k=>st.at fun o e=>k it (by simp) o e
 item:=by
  intro X hP hw hK hc i pins s σ H E I hf st hg;subst hP hw hK;obtain⟨xs,x,hq,hx⟩:=hg;obtain⟨its,rv,p,hz⟩:=I.tuple hq;obtain⟨u,hu,ru⟩:=rv.get hx;obtain⟨f0,f1,f2,f3,f4,f5⟩:=hf it (by simp)
  refine wpAny_pyNext_tuple_item st (show s.heap.IsTuple a its.toArray from p) (x:=u) (by simpa using hu) fun h' st' sb=>?_
  have I1:Inv X pins σ H { s with heap:=h' }:=I.turned (t':=s.toks) (fun b o hb e=>(sb.2 b hb).trans e) f0 f1 f3 f4 f5
  obtain⟨o,e,c,d⟩:=id st'
  exact⟨u,rfl,wX (s:={ s with heap:=h' }) e c d (by decide) ⟨x,H,I1,ru,⟨rfl,fun ys hy=>by rw[I.yc hy hq];exact hx⟩,st',fun b hb=>(hf b hb).1⟩⟩
 done:=by
  intro X hP hw hK hc i pins s σ H E I hf st hg;subst hP hw hK;obtain⟨xs,hq,hx⟩:=hg;obtain⟨its,rv,p,hz⟩:=I.tuple hq;obtain⟨f0,f1,f2,f3,f4,f5⟩:=hf it (by simp);have hl:=rv.length
  exact wpAny_pyNext_tuple_end (I.ok.hd hc) st (show s.heap.IsTuple a its.toArray from p) (by simp;omega) fun h' eb=>⟨rfl,I.turned (t':=s.toks) (fun b o hb e=>eb b o hb e) f0 f1 f3 f4 f5⟩
 self:=fun _ _ _ _ _ st h=>wpAny_pyIter_tupleiter st h
theorem wC{P:Program}{w:World}{K:PySem.W.Frag}{tg:Expr}(it:Addr)(lo:Int)(n:Nat):Turn P w K tg (Itr lo n) [it] it (fun i h=>IsRangeIter h it (lo+(i:Nat)*1) ((n:Int) - (i:Nat)) 1) where
 mem:=by simp
 obj:=fun i h st b hb=>by
  have e:b=it:=by simpa using hb
  subst e
  exact⟨_,st,fun v z=>by
   have z':Data.fields _=Data.cell v:=z
   cases z'⟩
 keep:=fun i h h' st k=>k it (by simp) _ st
 item:=by
  intro X hP hw hK hc i pins s σ H E I hf st hg;subst hP hw hK;obtain⟨f0,f1,f2,f3,f4,f5⟩:=hf it (by simp);have W:=Walks.range (prog:=X.prog) (w:=X.w) (I.ok.hd hc) it lo 1 n
  refine W.item i s _ _ hg st fun v h' tk hv st' kk=>?_
  obtain⟨t,rfl⟩:=hv
  have I1:Inv X pins σ H { s with heap:=h',toks:=tk }:=I.turned (fun b o hb e=>kk b o (by simpa using hb) e) f0 f1 f3 f4 f5
  refine⟨_,rfl,wX (s:={ s with heap:=h',toks:=tk }) (n:="range_iterator") st' rfl rfl (by decide) ⟨.int (lo+i),H,I1,⟨t,?_⟩,⟨rfl,rfl⟩,st',fun b hb=>(hf b hb).1⟩⟩
  rw[Int.mul_one]
 done:=by
  intro X hP hw hK hc i pins s σ H E I hf st hg;subst hP hw hK;obtain⟨f0,f1,f2,f3,f4,f5⟩:=hf it (by simp)
  exact wpAny_pyNext_range_end (I.ok.hd hc) st (by have:n<=i:=hg;omega) fun h' eb=>⟨rfl,I.turned (t':=s.toks) (fun b o hb e=>eb b o hb e) f0 f1 f3 f4 f5⟩
 self:=fun _ _ _ _ _ st h=>wpAny_pyIter_rangeiter st h
section
variable{X:Cx}{tg:Expr}
noncomputable def Fw(K:PySem.W.Frag)(tl:TE):TI:=fun σ H R=>tl σ H fun x H1=>∃ a,x=.ref a /\ (∃ xs,SqL K H1 a xs) /\ R (Itl K a) H1
noncomputable def Az(K:PySem.W.Frag)(tl:TE):TI:=fun σ H R=>tl σ H fun x H1=>∃ a,x=.ref a /\ (∃ xs,SqT K H1 a xs) /\ R (Itt K a) H1
theorem DJ{l:Expr}{tl:TE}(hl:PE X l tl):PI X tg l (Az X.K tl):=by
 intro pins s σ H R I h
 refine thn (hl pins s σ H _ I h) fun v s1 ⟨x,H1,I1,r1,q1⟩=>?_
 obtain⟨a,e,⟨xs,hq⟩,q⟩:=q1;subst e;cases r1;obtain⟨its,rv,p,hz⟩:=I1.tuple hq;refine wpAny_pyIter_tuple (show s1.heap.IsTuple a its.toArray from p) ?_
 refine⟨s1.heap.objs.size,[s1.heap.objs.size],_,_,H1,rfl,I1.kept (t':=s1.toks) fun b o e=>Heap.get?_push_of_some _ e,rm a _,⟨_,Heap.get?_push_size _ rfl,rfl,rfl⟩,fun b hb=>?_,q⟩
 have e:b=s1.heap.objs.size:=by simpa using hb
 subst e;exact I1.wx (Nat.le_refl _) (I1.hok.fresh (Nat.le_refl _))
theorem zO{pins:List (Addr×Obj)}{σ:St}{H:Hp}{s:Shared}{R:It->Hp->Prop}{E:Value->Shared->Prop}{lo hi:Int}{t u v:Tok}{tk:Nat}(I:Inv X pins σ H s)(h1:-(2 ^ 62)<=lo)(h2:lo<2 ^ 62)(h3:-(2 ^ 62)<=hi)(h4:hi<2 ^ 62)
  (q:R (Itr lo (hi - lo).toNat) H):wpAny (model X.prog X.w) X.A (pyIter (.ref s.heap.objs.size)) (PIE X pins σ tg R) E { s with heap:=s.heap.push { cls:=.type "range",data:=.fields #[.int lo t,.int hi u,.int 1 v] },toks:=tk }:=by
 refine wpAny_pyIter_range (IsRange.new ..) (small_one h1 h2 h3 h4) ?_
 have I1:Inv X pins σ H { s with heap:=s.heap.push { cls:=.type "range",data:=.fields #[.int lo t,.int hi u,.int 1 v] },toks:=tk }:=I.kept fun b o e=>Heap.get?_push_of_some _ e
 refine⟨(s.heap.push { cls:=.type "range",data:=.fields #[.int lo t,.int hi u,.int 1 v] }).objs.size,[(s.heap.push { cls:=.type "range",data:=.fields #[.int lo t,.int hi u,.int 1 v] }).objs.size],_,_,H,rfl,
  I1.kept (t':=tk) fun b o e=>Heap.get?_push_of_some _ e,wC _ lo (hi - lo).toNat,?_,fun b hb=>?_,q⟩
 . have e1:lo+((0:Nat):Int)*1=lo:=by simp
   have e2:(((hi - lo).toNat:Nat):Int) - ((0:Nat):Int)=Builtin.Range.rangeSize lo hi 1:=by rw[rangeSize_one];split<;>omega
   show IsRangeIter _ _ (lo+((0:Nat):Int)*1) ((((hi - lo).toNat:Nat):Int) - ((0:Nat):Int)) 1;rw[e1,e2];exact Heap.get?_push_size _ rfl
 . have e:b=(s.heap.push { cls:=.type "range",data:=.fields #[.int lo t,.int hi u,.int 1 v] }).objs.size:=by simpa using hb
   subst e;exact I1.wx (Nat.le_refl _) (I1.hok.fresh (Nat.le_refl _))
noncomputable def xo(ta:TA):TI:=fun σ H R=>ta σ H fun vs H1=>∃ j:Int,vs=[.int j] /\ -(2 ^ 62)<=j /\ j<2 ^ 62 /\ R (Itr 0 j.toNat) H1
theorem xR{a:Expr}{ta:TA}{p pos:Pos}(hg:Gl X "range")(hm:X.mg "range" = none)(ha:PA X [a] ta)(hs:starEach [a] X.env=[(false,eval a X.env)]:=by rfl):PI X tg (.Call (.Name "range" p) [a] [] pos) (xo ta):=by
 intro pins s σ H R I h;refine Call_ (tK I hg hm boot_range (PyProof.Rows.callWith_type1 (thn (ha pos pins s σ H _ I h) fun us s1 ⟨vs,H1,I1,r1,q1⟩=>?_) hs rfl));obtain⟨j,e,q1,q2,q⟩:=q1;subst e
 cases r1 with
 | cons r rr=>
   cases rr;obtain⟨t,rfl⟩:=r;exact call_range_1 (zO I1 (by omega) (by omega) q1 q2 (by simpa using q))
noncomputable def zo(wi:TI)(g:TG)(tb:TS):TS:=fun D σ H=>wi σ H fun J H1=>∃ W:Nat->Nat->St->Hp->Prop,(∃ m,W 0 m σ H1) /\ ∀ i m σ H,W i m σ H ->
 (J.stop i H /\ D.nx σ H) \/ (J.go i H /\ ∃ N:St->Hp->Prop,(∀ σ' H',N σ' H'->∃ m',m'<m /\ W (i+1) m' σ' H') /\ ∀ x H',J.yld i H x H'->g x σ H' fun σ2 H2=>tb { D with nx:=N,ct:=N,bk:=D.nx } σ2 H2)
noncomputable def tu(fp:List Addr)(h:Heap):List (Addr×Obj):=fp.filterMap fun b=>(h.get? b).map fun o=>(b,o)
theorem dc{fp:List Addr}{h:Heap}{b:Addr}{o:Obj}(hb:b∈fp)(e:h.get? b=some o):(b,o)∈tu fp h:=List.mem_filterMap.mpr ⟨b,hb,by rw[e];rfl⟩
theorem yl{fp:List Addr}{h:Heap}{p:Addr×Obj}(hp:p∈tu fp h):p.1∈fp /\ h.get? p.1=some p.2:=by
 obtain⟨b,hb,e⟩:=List.mem_filterMap.mp hp
 cases q:h.get? b with
 |none=>rw[q]at e;cases e
 | some o=>
   rw[q]at e
   have e':(b,o)=p:=Option.some.inj e
   subst e'
   exact⟨hb,q⟩
theorem Inv.pinned{pins:List (Addr×Obj)}{σ:St}{H:Hp}{s:Shared}{fp:List Addr}(I:Inv X pins σ H s)(hf:∀ b∈fp,kZ X pins H b)(ho:∀ b∈fp,∃ o,s.heap.get? b=some o /\ ∀ v,o.data≠.cell v):Inv X (pins++tu fp s.heap) σ H s:=
 I.wR fun p hp=>(List.mem_append.mp hp).elim (fun z=>I.pin p (List.mem_append_right _ z)) fun z=>by
  obtain⟨hb,e⟩:=yl z;obtain⟨f0,f1,f2,_⟩:=hf p.1 hb;obtain⟨o,e',d⟩:=ho p.1 hb;rw[e]at e';cases e'
  exact⟨e,f0,f1,f2,d⟩
theorem Inv.g5{pins pl:List (Addr×Obj)}{σ:St}{H:Hp}{s:Shared}(I:Inv X (pins++pl) σ H s):Inv X pins σ H s:=I.wR fun p hp=>I.pin p (List.mem_append_right _ (List.mem_append_left _ hp))
theorem DX{iter:Expr}{body:List Stmt}{wi:TI}{g:TG}{tb:TS}{pos:Pos}(hp:PassesOwn (model X.prog X.w) X.A X.env X.xe)(hc:X.calm=true)(hi:PI X tg iter wi)(hg:PG X tg g)(hb:PSs X body tb)
  (hs:∀ x,foldedSetIterable iter X.env x=pure x:=by intro _;rfl):PS X (.For tg iter body [] pos) (zo wi g tb):=by
 intro pins s σ H D I h;refine wpAny_For (thn (hi pins s σ H _ I h) fun v s1 h1=>thn h1 fun itv s2 h2=>?_) hs;obtain⟨it,fp,tn,J,H2,e,I2,T,st2,f2,W,⟨m0,w0⟩,turn⟩:=h2;subst e
 have stat:∀{H':Hp},(∀ b∈fp,H' b=none)->∀ b∈fp,kZ X pins H' b:=fun hn b hb=>⟨hn b hb,(f2 b hb).2⟩
 refine codeAny_forLoop_any (fun n s'=>∃ i σ' H',Inv X pins σ' H' s' /\ tn i s'.heap /\ (∀ b∈fp,H' b=none) /\ W i n σ' H') ?_ m0 ⟨0,σ,H2,I2,st2,fun b hb=>(f2 b hb).1,w0⟩
 rintro n s3 ⟨i,σ3,H3,I3,st3,fr3,w3⟩
 rcases turn i n σ3 H3 w3 with⟨stop,qn⟩|⟨go,N,hN,step⟩
 . refine wpAny_passesOwn hp (thn (T.done X rfl rfl rfl hc i pins s3 σ3 H3 X.xe I3 (stat fr3) st3 stop) fun r s4 ⟨hr,I4⟩=>?_);subst hr;exact wpAny_execs_nil ⟨σ3,H3,I4,qn⟩
 . refine wpAny_passesOwn hp (thn (T.item X rfl rfl rfl hc i pins s3 σ3 H3 X.xe I3 (stat fr3) st3 go) fun r s4 ⟨u,hr,h4⟩=>?_);subst hr;refine wpAny_passesOwn hp (thn h4 fun _ s5 ⟨x,H5,I5,r5,y5,st5,fr5⟩=>?_)
   have I5':=I5.pinned (stat fr5) (T.obj _ _ st5)
   refine wpAny_passesOwn hp (thn (hg _ s5 σ3 H5 x u _ I5' r5 (step x H5 y5)) fun _ s6 ⟨σ6,H6,I6,q6⟩=>?_);refine wpAny_passesOwn hp (thn (hb _ s6 σ6 H6 _ I6 q6) fun f s7 q7=>?_)
   have again:∀{σ7:St} {H7:Hp},Inv X (pins++tu fp s5.heap) σ7 H7 s7->N σ7 H7->∃ m,m<n /\ ∃ i σ' H',Inv X pins σ' H' s7 /\ tn i s7.heap /\ (∀ b∈fp,H' b=none) /\ W i m σ' H':=fun {σ7 H7} I7 n7=>by
    obtain⟨m',hm,w7⟩:=hN σ7 H7 n7
    refine⟨m',hm,i+1,σ7,H7,I7.g5,T.keep _ _ _ st5 fun b hb o e=>(I7.pin (b,o) (List.mem_append_right _ (List.mem_append_right _ (dc hb e)))).1,fun b hb=>?_,w7⟩
    obtain⟨o,e,d⟩:=T.obj _ _ st5 b hb
    exact(I7.pin (b,o) (List.mem_append_right _ (List.mem_append_right _ (dc hb e)))).2.1
   cases f with
   |next=>obtain⟨σ7,H7,I7,n7⟩:=q7;exact again I7 n7
   |cont=>obtain⟨σ7,H7,I7,n7⟩:=q7;exact again I7 n7
   |brk=>obtain⟨σ7,H7,I7,q7⟩:=q7;exact⟨σ7,H7,I7.g5,q7⟩
   |ret v=>obtain⟨x7,σ7,H7,I7,r7,q7⟩:=q7;exact⟨x7,σ7,H7,I7.g5,r7,q7⟩
end
theorem yM{K:PySem.W.Frag}{a:Addr}{xs:List V}{g:TG}{tb:TS}{D:Ends}{σ:St}{H:Hp}(Pv:Nat->St->Hp->Prop)(h0:Pv 0 σ H)(hl:∀ i σ H,i<=xs.length->Pv i σ H->SqL K H a xs)
  (hs:∀ i x σ H,xs[i]?=some x->Pv i σ H->g x σ H fun σ2 H2=>tb { D with nx:=Pv (i+1),ct:=Pv (i+1),bk:=D.nx } σ2 H2) (hd:∀ σ H,Pv xs.length σ H->D.nx σ H):
  ∃ W:Nat->Nat->St->Hp->Prop,(∃ m,W 0 m σ H) /\ ∀ i m σ H,W i m σ H ->
    ((Itl K a).stop i H /\ D.nx σ H) \/ ((Itl K a).go i H /\ ∃ N:St->Hp->Prop,(∀ σ' H',N σ' H'->∃ m',m'<m /\ W (i+1) m' σ' H') /\ ∀ x H',(Itl K a).yld i H x H'->g x σ H' fun σ2 H2=>tb { D with nx:=N,ct:=N,bk:=D.nx } σ2 H2):=by
 refine⟨fun i m σ H=>m=xs.length - i /\ i<=xs.length /\ Pv i σ H,⟨xs.length,by simp,Nat.zero_le _,h0⟩,?_⟩
 rintro i m σ H ⟨rfl,hi,p⟩
 have q:=hl i σ H hi p
 by_cases hlt:i<xs.length
 . refine .inr ⟨⟨xs,xs[i],q,by simp[hlt]⟩,Pv (i+1),fun σ' H' p'=>⟨xs.length - (i+1),by omega,rfl,hlt,p'⟩,fun x H' y=>?_⟩;obtain⟨e,y⟩:=y;subst e;exact hs i x σ _ (y xs q) p
 . have e:i=xs.length:=by omega
   subst e;exact .inl ⟨⟨xs,q,Nat.le_refl _⟩,hd σ H p⟩
theorem AM{K:PySem.W.Frag}{a:Addr}{xs:List V}{g:TG}{tb:TS}{D:Ends}{σ:St}{H:Hp}(Pv:Nat->St->Hp->Prop)(h0:Pv 0 σ H)(hl:∀ i σ H,i<=xs.length->Pv i σ H->SqT K H a xs)
  (hs:∀ i x σ H,xs[i]?=some x->Pv i σ H->g x σ H fun σ2 H2=>tb { D with nx:=Pv (i+1),ct:=Pv (i+1),bk:=D.nx } σ2 H2) (hd:∀ σ H,Pv xs.length σ H->D.nx σ H):
  ∃ W:Nat->Nat->St->Hp->Prop,(∃ m,W 0 m σ H) /\ ∀ i m σ H,W i m σ H ->
    ((Itt K a).stop i H /\ D.nx σ H) \/ ((Itt K a).go i H /\ ∃ N:St->Hp->Prop,(∀ σ' H',N σ' H'->∃ m',m'<m /\ W (i+1) m' σ' H') /\ ∀ x H',(Itt K a).yld i H x H'->g x σ H' fun σ2 H2=>tb { D with nx:=N,ct:=N,bk:=D.nx } σ2 H2):=by
 refine⟨fun i m σ H=>m=xs.length - i /\ i<=xs.length /\ Pv i σ H,⟨xs.length,by simp,Nat.zero_le _,h0⟩,?_⟩
 rintro i m σ H ⟨rfl,hi,p⟩
 have q:=hl i σ H hi p
 by_cases hlt:i<xs.length
 . refine .inr ⟨⟨xs,xs[i],q,by simp[hlt]⟩,Pv (i+1),fun σ' H' p'=>⟨xs.length - (i+1),by omega,rfl,hlt,p'⟩,fun x H' y=>?_⟩;obtain⟨e,y⟩:=y;subst e;exact hs i x σ _ (y xs q) p
 . have e:i=xs.length:=by omega
   subst e;exact .inl ⟨⟨xs,q,Nat.le_refl _⟩,hd σ H p⟩
theorem xv{lo:Int}{n:Nat}{g:TG}{tb:TS}{D:Ends}{σ:St}{H:Hp}(Pv:Nat->St->Hp->Prop)(h0:Pv 0 σ H)
  (hs:∀ i σ H,i<n->Pv i σ H->g (.int (lo+i)) σ H fun σ2 H2=>tb { D with nx:=Pv (i+1),ct:=Pv (i+1),bk:=D.nx } σ2 H2) (hd:∀ σ H,Pv n σ H->D.nx σ H):
  ∃ W:Nat->Nat->St->Hp->Prop,(∃ m,W 0 m σ H) /\ ∀ i m σ H,W i m σ H ->
    ((Itr lo n).stop i H /\ D.nx σ H) \/ ((Itr lo n).go i H /\ ∃ N:St->Hp->Prop,(∀ σ' H',N σ' H'->∃ m',m'<m /\ W (i+1) m' σ' H') /\ ∀ x H',(Itr lo n).yld i H x H'->g x σ H' fun σ2 H2=>tb { D with nx:=N,ct:=N,bk:=D.nx } σ2 H2):=by
 refine⟨fun i m σ H=>m=n - i /\ i<=n /\ Pv i σ H,⟨n,by simp,Nat.zero_le _,h0⟩,?_⟩
 rintro i m σ H ⟨rfl,hi,p⟩
 by_cases hlt:i<n
 . refine .inr ⟨hlt,Pv (i+1),fun σ' H' p'=>⟨n - (i+1),by omega,rfl,hlt,p'⟩,fun x H' y=>?_⟩;obtain⟨e,y⟩:=y;subst e y;exact hs i σ _ hlt p
 . have e:i=n:=by omega
   subst e;exact .inl ⟨Nat.le_refl _,hd σ H p⟩
abbrev R2:=V->V->Hp->VK->Prop
noncomputable def OpR(X:Cx)(f:Value->Value->Sem Value)(r:R2):Prop:=
 ∀(pins:List (Addr×Obj)) (s:Shared) (σ:St) (H:Hp) (x y:V) (v u:Value) (Q:VK),Inv X pins σ H s->RelV x v->RelV y u->r x y H Q ->
   wpAny (model X.prog X.w) X.A (f v u) (EP X pins σ Q) X.xe s
noncomputable def UnR(X:Cx)(f:Value->Sem Value)(r:V->Hp->VK->Prop):Prop:=
 ∀(pins:List (Addr×Obj)) (s:Shared) (σ:St) (H:Hp) (x:V) (v:Value) (Q:VK),Inv X pins σ H s->RelV x v->r x H Q ->
   wpAny (model X.prog X.w) X.A (f v) (EP X pins σ Q) X.xe s
noncomputable def ko(X:Cx)(f:Value)(r:List V->Hp->VK->Prop):Prop:=
 ∀(pins:List (Addr×Obj)) (s:Shared) (σ:St) (H:Hp) (xs:List V) (us:List Value) (Q:VK),Inv X pins σ H s->Vals xs us->r xs H Q ->
   wpAny (model X.prog X.w) X.A (call f us) (EP X pins σ Q) X.xe s
noncomputable def Gp(X:Cx)(r:V->Hp->(Bool->Hp->Prop)->Prop):Prop:=
 ∀(pins:List (Addr×Obj)) (s:Shared) (σ:St) (H:Hp) (x:V) (v:Value) (Q:Bool->Hp->Prop),Inv X pins σ H s->RelV x v->r x H Q ->
   wpAny (model X.prog X.w) X.A (truthy v) (TP X pins σ Q) X.xe s
noncomputable def tOp(r:R2)(ta tb:TE):TE:=fun σ H Q=>ta σ H fun x H1=>tb σ H1 fun y H2=>r x y H2 Q
noncomputable def tUn(r:V->Hp->VK->Prop)(ta:TE):TE:=fun σ H Q=>ta σ H fun x H1=>r x H1 Q
noncomputable def rI(C:Int->Int->Prop)(g:Int->Int->V):R2:=fun x y H Q=>∃ i j,x=.int i /\ y=.int j /\ C i j /\ Q (g i j) H
noncomputable def rI0(g:Int->Int->V):R2:=fun x y H Q=>∃ i j,x=.int i /\ y=.int j /\ Q (g i j) H
noncomputable def rU(g:Int->V):V->Hp->VK->Prop:=fun x H Q=>∃ i,x=.int i /\ Q (g i) H
section
variable{X:Cx}{a b c:Expr}{ta tb tc:TE}{pos:Pos}
theorem DU(ha:PE X a ta)(hb:PE X b tb){pins:List (Addr×Obj)}{s:Shared}{σ:St}{H:Hp}{R:V->V->Hp->Prop}(I:Inv X pins σ H s)
  (h:ta σ H fun x H1=>tb σ H1 fun y H2=>R x y H2) {Q:Value->Shared->Prop} {f:Value->Value->Sem Value}
  (hf:∀ v u s2 x y H2,Inv X pins σ H2 s2->RelV x v->RelV y u->R x y H2->wpAny (model X.prog X.w) X.A (f v u) Q X.xe s2):
  wpAny (model X.prog X.w) X.A (eval a X.env) (fun v s₁=>wpAny (model X.prog X.w) X.A (eval b X.env) (fun u s₂=>wpAny (model X.prog X.w) X.A (f v u) Q X.xe s₂) X.xe s₁) X.xe s:=by
 refine thn (ha pins s σ H _ I h) fun v s1 ⟨x,H1,I1,r1,q1⟩=>?_
 refine thn (hb pins s1 σ H1 _ I1 q1) fun u s2 ⟨y,H2,I2,r2,q2⟩=>?_
 exact hf v u s2 x y H2 I2 r1 r2 q2
theorem EI{op:Operator}{r:R2}(ho:OpR X (binaryOp op) r)(ha:PE X a ta)(hb:PE X b tb):PE X (.BinOp a op b pos) (tOp r ta tb):=by
 intro pins s σ H Q I h;exact wpAny_BinOp (DU ha hb I h fun v u s2 x y H2 I2 rx ry q=>ho pins s2 σ H2 x y v u Q I2 rx ry q)
theorem Fb{op:UnaryOp}{r:V->Hp->VK->Prop}(ho:UnR X (unaryOp op) r)(ha:PE X a ta):PE X (.UnaryOp op a pos) (tUn r ta):=by
 intro pins s σ H Q I h;exact UnaryOp_ (thn (ha pins s σ H _ I h) fun v s1 ⟨x,H1,I1,r1,q1⟩=>ho pins s1 σ H1 x v Q I1 r1 q1)
theorem opI{f:Value->Value->Sem Value}{C:Int->Int->Prop}{g:Int->Int->Int}
  (rule:∀(i j:Int) (t u:Tok) (s:Shared) (Q:Value->Shared->Prop) (E:Value->Shared->Prop),C i j->Q (.int (g i j) s.toks) { s with toks:=s.toks+1 }->wpAny (model X.prog X.w) X.A (f (.int i t) (.int j u)) Q E s):
  OpR X f (rI C fun i j=>.int (g i j)):=by
 intro pins s σ H x y v u Q I rx ry h;obtain⟨i,j,rfl,rfl,hc,q⟩:=h;obtain⟨t,rfl⟩:=rx;obtain⟨t',rfl⟩:=ry;exact rule i j t t' s _ _ hc ⟨.int (g i j),H,I.tok _,⟨_,rfl⟩,q⟩
theorem EC{f:Value->Value->Sem Value}{g:Int->Int->Int}
  (rule:∀(i j:Int) (t u:Tok) (s:Shared) (Q:Value->Shared->Prop) (E:Value->Shared->Prop),Q (.int (g i j) s.toks) { s with toks:=s.toks+1 }->wpAny (model X.prog X.w) X.A (f (.int i t) (.int j u)) Q E s):
  OpR X f (rI0 fun i j=>.int (g i j)):=by
 intro pins s σ H x y v u Q I rx ry h;obtain⟨i,j,rfl,rfl,q⟩:=h;obtain⟨t,rfl⟩:=rx;obtain⟨t',rfl⟩:=ry;exact rule i j t t' s _ _ ⟨.int (g i j),H,I.tok _,⟨_,rfl⟩,q⟩
theorem Bz{f:Value->Value->Sem Value}{g:Int->Int->Bool}
  (rule:∀(i j:Int) (t u:Tok) (s:Shared) (Q:Value->Shared->Prop) (E:Value->Shared->Prop),Q (.bool (g i j)) s->wpAny (model X.prog X.w) X.A (f (.int i t) (.int j u)) Q E s):
  OpR X f (rI0 fun i j=>.bl (g i j)):=by
 intro pins s σ H x y v u Q I rx ry h;obtain⟨i,j,rfl,rfl,q⟩:=h;obtain⟨t,rfl⟩:=rx;obtain⟨t',rfl⟩:=ry;exact rule i j t t' s _ _ ⟨.bl (g i j),H,I,rfl,q⟩
noncomputable def CO(i j:Int):Prop:=0<j /\ j<1073741824
noncomputable def zw(i j:Int):Prop:=(-(2 ^ 64)<i /\ i<2 ^ 64) \/ (-(2 ^ 64)<j /\ j<2 ^ 64)
theorem zw.ok{i j:Int}(h:zw i j):IntMulOk i j:=by
 rcases h with⟨h1,h2⟩|⟨h1,h2⟩
 . exact .of_left (intBits_le_64 h1 h2)
 . exact .of_right (intBits_le_64 h1 h2)
theorem cV:OpR X (binaryOp .Add) (rI0 fun i j=>.int (i+j)):=EC fun _ _ _ _ _ _ _ q=>add_int q
theorem vI:OpR X (binaryOp .Sub) (rI0 fun i j=>.int (i - j)):=EC fun _ _ _ _ _ _ _ q=>sub_int q
theorem o6:OpR X (binaryOp .Mult) (rI zw fun i j=>.int (i*j)):=opI fun _ _ _ _ _ _ _ hc q=>mul_int q hc.ok
theorem fz:OpR X (binaryOp .FloorDiv) (rI CO fun i j=>.int (i/j)):=opI fun i j _ _ _ _ _ hc q=>by
 have h1:(0:Int)<j:=hc.1
 have h2:j<1073741824:=hc.2
 exact floordiv_int (by omega) (by rw[Int.fdiv_eq_ediv_of_nonneg i (by omega)];exact q) (.inl (PyProof.noPylong_small (by omega)))
theorem b4:OpR X (binaryOp .Mod) (rI (fun _ j=>0<j) fun i j=>.int (i%j)):=opI fun i j _ _ _ _ _ hc q=>by
 have h1:(0:Int)<j:=hc
 exact mod_int' (by omega) (by rw[Int.fmod_eq_emod_of_nonneg i (by omega)];exact q)
theorem unI{f:Value->Sem Value}{g:Int->Int}
  (rule:∀(i:Int) (t:Tok) (s:Shared) (Q:Value->Shared->Prop) (E:Value->Shared->Prop),Q (.int (g i) s.toks) { s with toks:=s.toks+1 }->wpAny (model X.prog X.w) X.A (f (.int i t)) Q E s):
  UnR X f (rU fun i=>.int (g i)):=by
 intro pins s σ H x v Q I rx h;obtain⟨i,rfl,q⟩:=h;obtain⟨t,rfl⟩:=rx;exact rule i t s _ _ ⟨.int (g i),H,I.tok _,⟨_,rfl⟩,q⟩
theorem lU:UnR X (unaryOp .USub) (rU fun i=>.int (-i)):=unI fun _ _ _ _ _ q=>neg_int q
end
noncomputable def D9:V->V->Bool
 |.non,.non=>true|.non,.int _=>true|.int _,.non=>true|.non,.bl _=>true|.bl _,.non=>true|.non,.str _=>true|.str _,.non=>true
 |.int _,.int _=>true|.bl _,.bl _=>true|.str _,.str _=>true|.byt _,.byt _=>true
 |.int _,.str _=>true|.str _,.int _=>true|.bl _,.str _=>true|.str _,.bl _=>true
 |_,_=>false
noncomputable def rEq:R2:=fun x y H Q=>D9 x y=true /\ Q (.bl (decide (x=y))) H
noncomputable def rNe:R2:=fun x y H Q=>D9 x y=true /\ Q (.bl (!decide (x=y))) H
theorem wU{i j:Int}:decide (V.int i=V.int j)=(i==j):=by
 rw[Bool.eq_iff_iff];simp
theorem yq{i j:Bool}:decide (V.bl i=V.bl j)=(i==j):=by
 rw[Bool.eq_iff_iff];simp
theorem xr{i j:Str}:decide (V.str i=V.str j)=(i==j):=by
 rw[Bool.eq_iff_iff];simp
theorem xp{i j:Array UInt8}:decide (V.byt i=V.byt j)=(i.toList==j.toList):=by
 rw[Bool.eq_iff_iff];cases i;cases j;simp
section
variable{X:Cx}{a b c:Expr}{ta tb tc:TE}{pos:Pos}
theorem b3{pins:List (Addr×Obj)}{σ:St}{H:Hp}{s:Shared}{Q:VK}{k k':Bool}(I:Inv X pins σ H s)(q:Q (.bl k) H)(e:k=k'):EP X pins σ Q (.bool k') s:=by
 subst e
 exact⟨.bl k,H,I,rfl,q⟩
theorem kr:OpR X (compareOp .Eq) rEq:=by
 intro pins s σ H x y v u Q I rx ry h;obtain⟨hs,q⟩:=h
 cases x with
 | non=>
   cases rx
   cases y with
   |non=>cases ry;exact PySem.EqNone.eq_none_none (b3 I q (by simp))
   |bl j=>cases ry;exact PySem.EqNone.eq_none_bool (b3 I q (by simp))
   |int j=>obtain⟨t',rfl⟩:=ry;exact PySem.EqNone.eq_none_int (b3 I q (by simp))
   |str j=>obtain⟨t',rfl⟩:=ry;exact PySem.EqNone.eq_none_str (b3 I q (by simp))
   |_=>exact absurd (show false=true from hs) Bool.false_ne_true
 | bl i=>
   cases rx
   cases y with
   |non=>cases ry;exact PySem.EqNone.eq_bool_none (b3 I q (by simp))
   |bl j=>cases ry;exact eq_bool (b3 I q yq)
   |str j=>obtain⟨t',rfl⟩:=ry;exact PySem.EqMixed.eq_bool_str (b3 I q (by simp))
   |_=>exact absurd (show false=true from hs) Bool.false_ne_true
 | int i=>
   obtain⟨t,rfl⟩:=rx
   cases y with
   |non=>cases ry;exact PySem.EqNone.eq_int_none (b3 I q (by simp))
   |int j=>obtain⟨t',rfl⟩:=ry;exact eq_int (b3 I q wU)
   |str j=>obtain⟨t',rfl⟩:=ry;exact PySem.EqMixed.eq_int_str (b3 I q (by simp))
   |_=>exact absurd (show false=true from hs) Bool.false_ne_true
 | str i=>
   obtain⟨t,rfl⟩:=rx
   cases y with
   |non=>cases ry;exact PySem.EqNone.eq_str_none (b3 I q (by simp))
   |bl j=>cases ry;exact PySem.EqMixed.eq_str_bool (b3 I q (by simp))
   |int j=>obtain⟨t',rfl⟩:=ry;exact PySem.EqMixed.eq_str_int (b3 I q (by simp))
   |str j=>obtain⟨t',rfl⟩:=ry;exact eq_str (b3 I q xr)
   |_=>exact absurd (show false=true from hs) Bool.false_ne_true
 | byt i=>
   obtain⟨t,rfl⟩:=rx
   cases y with
   |byt j=>obtain⟨t',rfl⟩:=ry;exact PySem.W.eq_bytes (b3 I q xp)
   |_=>exact absurd (show false=true from hs) Bool.false_ne_true
 |_=>cases y<;>exact absurd (show false=true from hs) Bool.false_ne_true
theorem Cd:OpR X (compareOp .NotEq) rNe:=by
 intro pins s σ H x y v u Q I rx ry h;obtain⟨hs,q⟩:=h
 cases x with
 | non=>
   cases rx
   cases y with
   |non=>cases ry;exact PySem.EqNone.ne_none_none (b3 I q (by simp))
   |bl j=>cases ry;exact PySem.EqNone.ne_none_bool (b3 I q (by simp))
   |int j=>obtain⟨t',rfl⟩:=ry;exact PySem.EqNone.ne_none_int (b3 I q (by simp))
   |str j=>obtain⟨t',rfl⟩:=ry;exact PySem.EqNone.ne_none_str (b3 I q (by simp))
   |_=>exact absurd (show false=true from hs) Bool.false_ne_true
 | bl i=>
   cases rx
   cases y with
   |non=>cases ry;exact PySem.EqNone.ne_bool_none (b3 I q (by simp))
   |bl j=>cases ry;exact ne_bool (b3 I q (congrArg not yq))
   |str j=>obtain⟨t',rfl⟩:=ry;exact PySem.EqMixed.ne_bool_str (b3 I q (by simp))
   |_=>exact absurd (show false=true from hs) Bool.false_ne_true
 | int i=>
   obtain⟨t,rfl⟩:=rx
   cases y with
   |non=>cases ry;exact PySem.EqNone.ne_int_none (b3 I q (by simp))
   |int j=>obtain⟨t',rfl⟩:=ry;exact ne_int (b3 I q (congrArg not wU))
   |str j=>obtain⟨t',rfl⟩:=ry;exact PySem.EqMixed.ne_int_str (b3 I q (by simp))
   |_=>exact absurd (show false=true from hs) Bool.false_ne_true
 | str i=>
   obtain⟨t,rfl⟩:=rx
   cases y with
   |non=>cases ry;exact PySem.EqNone.ne_str_none (b3 I q (by simp))
   |bl j=>cases ry;exact PySem.EqMixed.ne_str_bool (b3 I q (by simp))
   |int j=>obtain⟨t',rfl⟩:=ry;exact PySem.EqMixed.ne_str_int (b3 I q (by simp))
   |str j=>obtain⟨t',rfl⟩:=ry;exact ne_str (b3 I q (congrArg not xr))
   |_=>exact absurd (show false=true from hs) Bool.false_ne_true
 | byt i=>
   obtain⟨t,rfl⟩:=rx
   cases y with
   |byt j=>obtain⟨t',rfl⟩:=ry;exact PySem.W.ne_bytes (b3 I q (congrArg not xp))
   |_=>exact absurd (show false=true from hs) Bool.false_ne_true
 |_=>cases y<;>exact absurd (show false=true from hs) Bool.false_ne_true
theorem qy:OpR X (compareOp .Lt) (rI0 fun i j=>.bl (decide (i<j))):=Bz fun _ _ _ _ _ _ _ q=>lt_int q
theorem sg:OpR X (compareOp .LtE) (rI0 fun i j=>.bl (decide (i<=j))):=Bz fun _ _ _ _ _ _ _ q=>le_int q
theorem uR:OpR X (compareOp .Gt) (rI0 fun i j=>.bl (decide (j<i))):=Bz fun _ _ _ _ _ _ _ q=>gt_int q
theorem yS:OpR X (compareOp .GtE) (rI0 fun i j=>.bl (decide (j<=i))):=Bz fun _ _ _ _ _ _ _ q=>ge_int q
theorem vO:OpR X (compareOp .Is) (fun x y H Q=>y=.non /\ Q (.bl (decide (x=.non))) H):=by
 intro pins s σ H x y v u Q I rx ry h;obtain⟨rfl,q⟩:=h;cases ry;refine is_none_gen (b3 I q ?_)
 cases x<;>first
  |(cases rx;rfl)
  |(obtain⟨t,rfl⟩:=rx;rfl)
theorem wH:OpR X (compareOp .IsNot) (fun x y H Q=>y=.non /\ Q (.bl (!decide (x=.non))) H):=by
 intro pins s σ H x y v u Q I rx ry h;obtain⟨rfl,q⟩:=h;cases ry;refine isnot_none_gen (b3 I q ?_)
 cases x<;>first
  |(cases rx;rfl)
  |(obtain⟨t,rfl⟩:=rx;rfl)
theorem pz(b:Expr){op:CmpOp}(h:op≠.In:=by decide)(h2:op≠.NotIn:=by decide):behindInMarks op b=false:=by
 have e1:(op==CmpOp.In)=false:=by cases op<;>first|rfl|exact absurd rfl h
 have e2:(op==CmpOp.NotIn)=false:=by cases op<;>first|rfl|exact absurd rfl h2
 cases b<;>simp[behindInMarks,e1,e2]
theorem BA{op:CmpOp}{r:R2}(ho:OpR X (compareOp op) r)(ha:PE X a ta)(hb:PE X b tb)(hm:behindInMarks op b=false):PE X (.Compare a [op] [b] pos) (tOp r ta tb):=by
 intro pins s σ H Q I h;exact wpAny_Compare1 (DU ha hb I h fun v u s2 x y H2 I2 rx ry q=>ho pins s2 σ H2 x y v u Q I2 rx ry q) hm
noncomputable def rR(t:TE):TT:=fun σ H Q=>t σ H fun x H'=>∃ k,x=.bl k /\ Q k H'
theorem AA{op:CmpOp}{r:R2}(ho:OpR X (compareOp op) r)(ha:PE X a ta)(hb:PE X b tb)(hm:behindInMarks op b=false):PT X (.Compare a [op] [b] pos) (rR (tOp r ta tb)):=by
 intro pins s σ H Q I h
 refine wpAny_isTrue_Compare1 (thn (ha pins s σ H _ I h) fun v s1 ⟨x,H1,I1,r1,q1⟩=>thn (hb pins s1 σ H1 _ I1 q1) fun u s2 ⟨y,H2,I2,r2,q2⟩=>
  thn (ho pins s2 σ H2 x y v u _ I2 r1 r2 q2) fun c s3 ⟨z,H3,I3,r3,k,e,q3⟩=>?_) hm
 subst e;cases r3;exact wpAny_truthy_bool ⟨H3,I3,q3⟩
noncomputable def vA(r r':R2)(ta tb tc:TE):TE:=fun σ H Q=>ta σ H fun x H1=>tb σ H1 fun y H2=>r x y H2 fun z H3=>∃ k,z=.bl k /\
 (if k=true then tc σ H3 fun w' H4=>r' y w' H4 Q else Q (.bl false) H3)
theorem zp{op op':CmpOp}{r r':R2}(ho:OpR X (compareOp op) r)(ho':OpR X (compareOp op') r')(ha:PE X a ta)(hb:PE X b tb)(hc:PE X c tc)
  (hm:lastMarks [op,op'] [b,c]=false:=by with_unfolding_all rfl):PT X (.Compare a [op,op'] [b,c] pos) (rR (vA r r' ta tb tc)):=by
 intro pins s σ H Q I h
 refine isTrue_chain (thn (ha pins s σ H _ I h) fun v s1 ⟨x,H1,I1,r1,q1⟩=>test_link (thn (hb pins s1 σ H1 _ I1 q1) fun u s2 ⟨y,H2,I2,r2,q2⟩=>
  thn (ho pins s2 σ H2 x y v u _ I2 r1 r2 q2) fun d s3 ⟨z,H3,I3,r3,k,e,q3⟩=>?_)) hm
 subst e;cases r3;refine wpAny_truthy_bool ?_
 cases k with
 | false=>
   obtain⟨k',e',q'⟩:=q3
   cases e'
   exact ite_ff ⟨H3,I3,q'⟩
 | true=>
   refine ite_tt (test_last (thn (hc pins s3 σ H3 _ I3 q3) fun w' s4 ⟨z',H4,I4,r4,q4⟩=>thn (ho' pins s4 σ H4 y z' u w' _ I4 r2 r4 q4) fun d' s5 ⟨z2,H5,I5,r5,k2,e2,q5⟩=>?_));subst e2;cases r5;exact wpAny_truthy_bool ⟨H5,I5,q5⟩
noncomputable def xy(K:PySem.W.Frag)(x:V)(H:Hp)(k:Bool):Prop:=
 match x with
 |.non=>k=false
 |.bl b=>k=b
 |.int i=>k=(i != 0)
 |.str y=>y.length<=sizeLine /\ k=((y.length:Int) != 0)
 |.byt y=>y.size<=sizeLine /\ k=((y.size:Int) != 0)
 |.ref p=>(∃ xs,SqL K H p xs /\ k=!xs.isEmpty) \/ (∃ xs,SqT K H p xs /\ k=!xs.isEmpty) \/ ∃ kvs,H p=some (.dK kvs) /\ k=!kvs.isEmpty
 |_=>False
theorem vJ{κ:Type}{kvs:List (κ×V)}{vs:List (κ×Value)}(r:KV kvs vs):(!vs.isEmpty)=!kvs.isEmpty:=by
 cases r<;>rfl
theorem qW{xs:List V}{its:List Value}(r:Vals xs its):(!its.toArray.isEmpty)=!xs.isEmpty:=by
 cases r<;>simp
theorem sQ:(sizeLine:Nat)<2 ^ 63:=by rw[sizeLine_eq];decide
theorem DQ:Gp X (fun x H Q=>∃ k,xy X.K x H k /\ Q k H):=by
 intro pins s σ H x v Q I rx h;obtain⟨k,e,q⟩:=h;have hl:=sQ
 have hs:sizeLine=16777216:=sizeLine_eq
 cases x with
 | non=>
   cases rx
   have e':k=false:=e
   subst e';exact truthy_none ⟨H,I,q⟩
 | bl b=>
   cases rx
   have e':k=b:=e
   subst e';exact wpAny_truthy_bool ⟨H,I,q⟩
 | int i=>
   obtain⟨t,rfl⟩:=rx
   have e':k=(i != 0):=e
   subst e';exact PySem.P.truthy_int ⟨H,I,q⟩
 | str y=>
   obtain⟨t,rfl⟩:=rx
   obtain⟨hy,e'⟩:y.length<=sizeLine /\ k=((y.length:Int) != 0):=e
   subst e';exact PySem.P.truthy_str (by omega) ⟨H,I.tok _,q⟩
 | byt y=>
   obtain⟨t,rfl⟩:=rx
   obtain⟨hy,e'⟩:y.size<=sizeLine /\ k=((y.size:Int) != 0):=e
   subst e';exact PySem.W.truthy_bytes (by omega) ⟨H,I.tok _,q⟩
 | ref p=>
   cases rx
   have e':(∃ xs,SqL X.K H p xs /\ k=!xs.isEmpty) \/ (∃ xs,SqT X.K H p xs /\ k=!xs.isEmpty) \/ ∃ kvs,H p=some (.dK kvs) /\ k=!kvs.isEmpty:=e
   rcases e' with⟨xs,hx,e'⟩|⟨xs,hx,e'⟩|⟨kvs,hx,e'⟩
   . subst e';obtain⟨its,r,pl,hz⟩:=I.list hx;have hlen:=r.length;exact wpAny_truthy_list pl.isList (by simp only[List.size_toArray];omega) ⟨H,I.tok _,by rw[qW r];exact q⟩
   . subst e';obtain⟨its,r,pl,hz⟩:=I.tuple hx;have hlen:=r.length;exact truthy_tuple pl (by simp only[List.size_toArray];omega) ⟨H,I.tok _,by rw[qW r];exact q⟩
   . subst e'
     obtain⟨hz,hS,vs,r,m⟩:kvs.length<=sizeLine /\ (p==sysModules)=false /\ ∃ vs,KV kvs vs /\ s.heap.DictOf (fT X.prog X.w) p vs:=I.hok p _ hx
     have hlen:kvs.length=vs.length:=Paired.length r
     exact wpAny_truthy_dict hS m (by omega) ⟨H,I.tok _,by rw[vJ r];exact q⟩
 |_=>exact(show False from e).elim
theorem yx(ha:PE X a ta)(he:∀ whole,isTrue a X.env whole=(do let v <- whole;standAt a.pos;holding [v] (truthy v))):
  PT X a (fun σ H Q=>ta σ H fun x H'=>∃ k,xy X.K x H' k /\ Q k H'):=by
 intro pins s σ H Q I h;exact isTrue_plain (thn (ha pins s σ H _ I h) fun v s1 ⟨x,H1,I1,r1,q1⟩=>DQ pins s1 σ H1 x v Q I1 r1 q1) (he _)
theorem vals1{x:V}{us:List Value}(r:Vals [x] us):∃ u,us=[u] /\ RelV x u:=by
 cases r with
 |cons r1 r2=>cases r2;exact⟨_,rfl,r1⟩
theorem vals2{x y:V}{us:List Value}(r:Vals [x,y] us):∃ u w',us=[u,w'] /\ RelV x u /\ RelV y w':=by
 cases r with
 | cons r1 r2=>
   cases r2 with
   |cons r3 r4=>cases r4;exact⟨_,_,rfl,r1,r3⟩
theorem xX(hc:X.calm=true):ko X (.builtin "max") (fun xs H Q=>∃ i j,xs=[.int i,.int j] /\ Q (.int (if j>i then j else i)) H):=by
 intro pins s σ H xs us Q I r h;obtain⟨i,j,rfl,q⟩:=h;obtain⟨u,w',rfl,⟨t,rfl⟩,⟨t',rfl⟩⟩:=vals2 r
 refine max_two_ints (I.ok.hd hc) fun h' tk k=>⟨_,H,I.kept k,?_,q⟩
 by_cases hj:j>i
 . rw[if_pos hj,if_pos hj];exact⟨_,rfl⟩
 . rw[if_neg hj,if_neg hj];exact⟨_,rfl⟩
theorem tM:ko X (.type "str") (fun xs H Q=>∃ i,xs=[.int i] /\ i.natAbs.log2<1920 /\ Q (.str (toString i)) H):=by
 intro pins s σ H xs us Q I r h;obtain⟨i,rfl,hz,q⟩:=h;obtain⟨u,rfl,t,rfl⟩:=vals1 r;exact PySem.P.str_of_int hz ⟨.str _,H,I.tok _,⟨_,rfl⟩,q⟩
theorem y1:ko X (.builtin "ord") (fun xs H Q=>∃ x,xs=[.str x] /\ x.length=1 /\ Q (.int (x.cps.getD 0 0:Nat)) H):=by
 intro pins s σ H xs us Q I r h;obtain⟨x,rfl,hz,q⟩:=h;obtain⟨u,rfl,t,rfl⟩:=vals1 r;exact ord_of_one hz ⟨.int _,H,I.tok _,⟨_,rfl⟩,q⟩
end
structure ip(k:Nat)(A:Around):Prop where
 hd:A.handled=none
 dp:A.depth+3*k+5<recursionLimit
 un:A.units+16*k+200<cLine
theorem ip.mono{j k:Nat}{A:Around}(r:ip k A)(h:j<=k):ip j A:=⟨r.hd,by have:=r.dp;omega,by have:=r.un;omega⟩
theorem ip.deeper{k:Nat}{A:Around}(r:ip (k+1) A)(env:Env):ip k (A.deeper env):=
 ⟨r.hd,by have:=r.dp;show A.depth+1+3*k+5<_;omega,by have:=r.un;show A.units+3+16*k+200<_;omega⟩
theorem ip.depth{k:Nat}{A:Around}(r:ip k A):A.depth<recursionLimit:=by have:=r.dp;omega
theorem ip.units{k:Nat}{A:Around}(r:ip k A):A.units+64<cLine:=by have:=r.un;omega
noncomputable def kb:TA:=fun _ H Q=>Q [] H
noncomputable def fL(ta:TE)(tr:TA):TA:=fun σ H Q=>ta σ H fun x H1=>tr σ H1 fun xs H2=>Q (x ::xs) H2
section
variable{X:Cx}{e:Expr}{es:List Expr}{te:TE}{t:TA}{pos:Pos}
theorem Dj:PA X [] kb:=fun _ _ _ _ H Q I h=>Calls.spliced_nil ⟨[],H,I,.nil,h⟩
theorem AB(ha:PE X e te)(hr:PA X es t)(hs:starEach (e ::es) X.env=(false,eval e X.env) ::starEach es X.env:=by rfl):PA X (e ::es) (fL te t):=by
 intro pos pins s σ H Q I h;rw[hs];show wpAny _ _ (spliced ((false,eval e X.env) ::backTo pos (starEach es X.env))) _ _ s;refine Calls.spliced_cons (thn (ha pins s σ H _ I h) fun u s1 ⟨x,H1,I1,r1,q1⟩=>?_)
 exact thn (hr pos pins s1 σ H1 _ I1 q1) fun us s2 ⟨xs,H2,I2,r2,q2⟩=>⟨x ::xs,H2,I2,.cons r1 r2,q2⟩
noncomputable def CZ(t:TA):TE:=fun σ H Q=>t σ H fun xs H1=>xs.length<=sizeLine /\ ∀ p,H1 p=none->Q (.ref p) (upd H1 p (.tup xs))
noncomputable def Bv(t:TA):TE:=fun σ H Q=>t σ H fun xs H1=>xs.length<=sizeLine /\ ∀ p,H1 p=none->Q (.ref p) (upd H1 p (.lst xs))
theorem DF{x1}(h:PA X es t):PE X (.Tuple es x1 pos) (CZ t):=by
 intro pins s σ H Q I hq;refine wpAny_Tuple_spliced (thn (h pos pins s σ H _ I hq) fun us s1 ⟨xs,H1,I1,r,z,q⟩=>⟨by rw[<- r.length];exact z,?_⟩)
 have hf:H1 s1.heap.objs.size=none:=I1.hok.fresh (Nat.le_refl _)
 refine⟨.ref s1.heap.objs.size,upd H1 s1.heap.objs.size (.tup xs),I1.laid (t':=s1.toks) (fun b u e=>Heap.get?_push_of_some _ e) (Nat.le_refl _) ?_,rfl,q _ hf⟩
 exact⟨⟨z,.new _ _⟩,us,r,⟨_,Heap.get?_push_size _ rfl,rfl,_,rfl⟩⟩
theorem C4(h:PA X es t):PE X (.List es pos) (Bv t):=by
 intro pins s σ H Q I hq;refine wpAny_List_spliced (thn (h pos pins s σ H _ I hq) fun us s1 ⟨xs,H1,I1,r,z,q⟩=>⟨by rw[<- r.length];exact z,?_⟩)
 have hf:H1 s1.heap.objs.size=none:=I1.hok.fresh (Nat.le_refl _)
 refine⟨.ref s1.heap.objs.size,upd H1 s1.heap.objs.size (.lst xs),I1.laid (t':=s1.toks) (fun b u e=>Heap.get?_push_of_some _ e) (Nat.le_refl _) ?_,rfl,q _ hf⟩
 exact⟨z,us,0,r,Heap.get?_push_size _ rfl⟩
end
abbrev Sp:=List V->Hp->VK->XK->Prop
abbrev CXT:=List Env->Hp->Shared->XK->Value->Shared->Prop
structure Ak(P:Program)(w:World)(K:PySem.W.Frag)(mg:Str->Option Value)(base:Heap)(A:Around)(outer:List Env)(s:Shared)(H:Hp):Prop where
 frames:A.frames=some outer
 mod:Mod K mg base
 bs:∀ b o,base.get? b=some o->s.heap.get? b=some o /\ H b=none
 bsz:base.objs.size<=s.heap.objs.size
 tQ:s.heap.FunFrames base outer
 frf:∀ b∈frs outer,H b=none
 hok:HOk P w H s.heap
 bare:AllBare s.gens
noncomputable def CE(outer:List Env)(P:Program)(w:World)(H:Hp)(s:Shared)(Q:VK)(u:Value)(s':Shared):Prop:=
 ∃ v H',s'.os=s.os /\ AllBare s'.gens /\ Un (frs outer) [] H H' s.heap s'.heap /\ HOk P w H' s'.heap /\ RelV v u /\ Q v H'
noncomputable def CR(CX:CXT)(outer:List Env)(P:Program)(w:World)(H:Hp)(s:Shared)(Q:VK)(E:XK)(r:Result)(s':Shared):Prop:=
 match r with
 |.ok (.ret u)=>CE outer P w H s Q u s'
 |.ok _=>False
 |.error e=>CX outer H s E e s'
structure cn(P:Program)(w:World)(K:PySem.W.Frag)(mg:Str->Option Value)(base:Heap)(CX:CXT)(k:Nat)(f:Addr)(fd:FuncData)(ps:List Str)(sp:Sp):Prop where
 len:∀ vs H Q E,sp vs H Q E->vs.length=ps.length
 run:∀(A:Around) (outer:List Env) (s:Shared) (H:Hp) (args:Args) (us:List Value) (vs:List V) (Q:VK) (E:XK),ip k A->Ak P w K mg base A outer s H->BindsTo s fd args (ps.zip us)->Vals vs us->sp vs H Q E ->
  codeAny (model P w) A (.call (.ref f) args) (CR CX outer P w H s Q E) s
theorem cn.mono{P:Program}{w:World}{K:PySem.W.Frag}{mg:Str->Option Value}{base:Heap}{CX:CXT}{j k:Nat}{f:Addr}{fd:FuncData}{ps:List Str}{sp:Sp}(F:cn P w K mg base CX j f fd ps sp)(h:j<=k):
  cn P w K mg base CX k f fd ps sp:=⟨F.len,fun A outer s H args us vs Q E hr=>F.run A outer s H args us vs Q E (hr.mono h)⟩
theorem cn.imp{P:Program}{w:World}{K:PySem.W.Frag}{mg:Str->Option Value}{base:Heap}{CX:CXT}{k:Nat}{f:Addr}{fd:FuncData}{ps:List Str}{sp sp':Sp}(F:cn P w K mg base CX k f fd ps sp)
  (h:∀ vs H Q E,sp' vs H Q E->sp vs H Q E):cn P w K mg base CX k f fd ps sp':=
 ⟨fun vs H Q E q=>F.len vs H Q E (h _ _ _ _ q),fun A outer s H args us vs Q E hr he hb hv hs=>F.run A outer s H args us vs Q E hr he hb hv (h _ _ _ _ hs)⟩
section
variable{X:Cx}{pins:List (Addr×Obj)}{σ:St}{H:Hp}{s s':Shared}
theorem Inv.GY(I:Inv X pins σ H s):Ak X.prog X.w X.K X.mg X.base X.A X.stack s H:=
 ⟨I.ok.frames,I.ok.mod,I.bs,Nat.le_trans I.ok.bsz I.sz,I.stack,I.tp,I.hok,I.bare⟩
theorem Inv.after{Q:VK}{u:Value}(I:Inv X pins σ H s)(h:CE X.stack X.prog X.w H s Q u s'):EP X pins σ Q u s':=by
 obtain⟨v,H',os,bare,un,hok,r,q⟩:=h;obtain⟨hh,g,d,t,os'⟩:=s'
 obtain rfl:os'=s.os:=os
 exact⟨v,H',I.call (h':=hh) (g':=g) (d':=d) (t':=t) (ch:=[]) un hok bare (fun b z=>absurd z (by simp)),r,q⟩
end
noncomputable def Binds(K:PySem.W.Frag)(fd:FuncData)(ps:List Str)(ds:List Value):Prop:=
 ∀(s:Shared) (us:List Value),K.In s.heap->(us++ds).length=ps.length->BindsTo s fd ⟨us,[]⟩ (ps.zip (us++ds))
theorem Binds.all{K:PySem.W.Frag}{fd:FuncData}{ps:List Str}(h:∀ us:List Value,us.length=ps.length->bindArgs fd ⟨us,[]⟩=pure (ps.zip us)):Binds K fd ps []:=fun s us _ hl=>by
 rw[List.append_nil]at hl ⊢
 exact .of_eq (h us hl)
noncomputable def PK(X:Cx)(kws:List Keyword)(t:TA):Prop:=
 ∀(pos:Pos) (pins:List (Addr×Obj)) (s:Shared) (σ:St) (H:Hp) (Q:List V->Hp->Prop),Inv X pins σ H s->t σ H Q->wpAny (model X.prog X.w) X.A (evalAll ((backToKw pos (keywordEach kws X.env)).map (·.2))) (AP X pins σ Q) X.xe s
structure bu(N P:List Str)(sc:Scope):Prop where
 kind:sc.kind=.function
 co:sc.isCoroutine=false
 gen:sc.isGenerator=false
 nd:N.Nodup
 pre:N.take P.length=P
 par:∀ x∈P,sc.names.lookup x=some .local \/ sc.names.lookup x=some .cell
 nofree:∀ y∈sc.names,y.2≠.free
theorem sf{kindOf:Str->Option NameKind}{x:Str}:∀{binds:List (Str×Value)} {m:Str->Option Value},(∀ v,(x,v)∉binds)->bindL kindOf binds m x=m x
 |[],_,_=>rfl
 | (n,v) ::r,m,h=>by
   unfold bindL;rw[sf fun w hw=>h w (List.mem_cons_of_mem _ hw)];split
   . have:x≠n:=by rintro rfl;exact h v List.mem_cons_self
     simp[this]
   . rfl
theorem sI{kindOf:Str->Option NameKind}{x:Str}:∀{binds:List (Str×Value)} {m:Str->Option Value},(∀ v,(x,v)∉binds)->bindC kindOf binds m x=m x
 |[],_,_=>rfl
 | (n,v) ::r,m,h=>by
   unfold bindC;rw[sI fun w hw=>h w (List.mem_cons_of_mem _ hw)];split
   . rfl
   . have:x≠n:=by rintro rfl;exact h v List.mem_cons_self
     simp[this]
theorem se{kindOf:Str->Option NameKind}{x:Str}{v:Value}:∀{P:List Str} {vs:List Value} {i:Nat} {m:Str->Option Value},P.Nodup->P[i]?=some x->vs[i]?=some v->kindOf x=some .local ->
  bindL kindOf (P.zip vs) m x=some v
 |[],_,_,_,_,h,_,_=>by simp at h
 |_ ::_,[],_,_,_,_,h,_=>by simp at h
 | p ::P,w ::vs,0,m,nd,h1,h2,hk=>by
   simp at h1 h2;subst h1;subst h2;show bindL kindOf ((p,w) ::P.zip vs) m p=_;unfold bindL;rw[sf fun v hv=>(List.nodup_cons.mp nd).1 (List.of_mem_zip hv).1,if_pos hk];simp
 | p ::P,w ::vs,i+1,m,nd,h1,h2,hk=>by
   show bindL kindOf ((p,w) ::P.zip vs) m x=_;unfold bindL;exact se (i:=i) (List.nodup_cons.mp nd).2 (by simpa using h1) (by simpa using h2) hk
theorem so{kindOf:Str->Option NameKind}{x:Str}{v:Value}:∀{P:List Str} {vs:List Value} {i:Nat} {m:Str->Option Value},P.Nodup->P[i]?=some x->vs[i]?=some v->kindOf x≠some .local ->
  bindC kindOf (P.zip vs) m x=some v
 |[],_,_,_,_,h,_,_=>by simp at h
 |_ ::_,[],_,_,_,_,h,_=>by simp at h
 | p ::P,w ::vs,0,m,nd,h1,h2,hk=>by
   simp at h1 h2;subst h1;subst h2;show bindC kindOf ((p,w) ::P.zip vs) m p=_;unfold bindC;rw[sI fun v hv=>(List.nodup_cons.mp nd).1 (List.of_mem_zip hv).1,if_neg hk];simp
 | p ::P,w ::vs,i+1,m,nd,h1,h2,hk=>by
   show bindC kindOf ((p,w) ::P.zip vs) m x=_;unfold bindC;exact so (i:=i) (List.nodup_cons.mp nd).2 (by simpa using h1) (by simpa using h2) hk
noncomputable def start(N:List Str)(vs:List V):St:=vs.map some++List.replicate (N.length - vs.length) none
noncomputable def n8(CX:CXT)(P:Program)(w:World)(K:PySem.W.Frag)(mg:Str->Option Value)(base:Heap)(N:List Str)(qual:Str)(scope:Scope)(f:Addr)(cd:Value)(A:Around)(outer:List Env)(s:Shared)(H:Hp)(E:XK):Cx where
 prog:=P
 w:=w
 K:=K
 mg:=mg
 base:=base
 A:=A.deeper (envOfC qual scope s.heap.objs.size f cd)
 N:=N
 s₀:=s
 H₀:=H
 env:=envOfC qual scope s.heap.objs.size f cd
 outer:=outer
 stack:=envOfC qual scope s.heap.objs.size f cd ::outer
 ex:=[]
 calm:=true
 fn:=fun _=>true
 pn:=[]
 xe:=fun e s'=>wpAny (model P w) (A.deeper (envOfC qual scope s.heap.objs.size f cd)) (leaving (envOfC qual scope s.heap.objs.size f cd) e) (fun _ s''=>CX outer H s E e s'') (fun e' s''=>CX outer H s E e' s'') s'
theorem t4{sc:Scope}{n:Nat}{x:Str}(h:sc.names.lookup x=some .cell):∃ c,(cellsFrom n sc.names []).lookup x=some c:=by
 have q:=PySem.W.cellsFrom_some sc.names n [] (.inl h);exact Option.isSome_iff_exists.mp q
theorem xP{CX:CXT}{P:Program}{w:World}{K:PySem.W.Frag}{mg:Str->Option Value}{base:Heap}{N ps:List Str}{qual:Str}{scope:Scope}{f:Addr}{cd:Value}{A:Around}{outer:List Env}{s s1:Shared}{H:Hp}{E:XK}{us:List Value}{vs:List V}
  (S:bu N ps scope) (hd:A.handled=none) (e0:Ak P w K mg base A outer s H) (hl:vs.length=ps.length) (r:Vals vs us)
  (x:InCallC s s.heap.objs.size (bindL (envOfC qual scope s.heap.objs.size f cd).kindOf (ps.zip us) fun _=>none) (cellsFrom (s.heap.objs.size+1) scope.names []) (bindC (envOfC qual scope s.heap.objs.size f cd).kindOf (ps.zip us) fun _=>none) s1):
  Inv (n8 CX P w K mg base N qual scope f cd A outer s H E) [] (start N vs) H s1:=by
 have hpl:ps.length<=N.length:=by have:=congrArg List.length S.pre;rw[List.length_take]at this;omega
 obtain⟨h1,tk,rfl,hk⟩:=x.done
 have noA:∀ b:Addr,b∉(n8 CX P w K mg base N qual scope f cd A outer s H E).ex:=fun b z=>absurd (show b∈([]:List Addr) from z) (by simp)
 refine⟨⟨e0.mod,S.kind,rfl,rfl,Nat.le_refl _,fun y z c h1 h2=>?_,fun y hy=>?_,fun y c _ h=>?_,fun _=>hd,Around.frames_deeper e0.frames,.inr ⟨rfl,rfl⟩,fun b z=>absurd z (noA b),e0.bs,e0.bsz,fun b _ _=>noA b,fun b z=>absurd z (noA b),e0.tQ,e0.frf⟩,
  rfl,e0.bare,Un.kept hk,⟨_,x.toInCall.ns,fun i y v h1 h2 h3=>?_⟩,fun y c h=>⟨_,x.cell y c h⟩,e0.hok.fresh (Nat.le_refl _),fun y c h=>?_,fun p hp=>absurd (show p∈([]:List (Addr×Obj)) from hp) (by simp),e0.hok.kept hk,?_⟩
 . exact name_of_addr x.apart (PySem.mem_of_lookup h1) (PySem.mem_of_lookup h2)
 . have hy:scope.names.lookup y=some .cell \/ scope.names.lookup y=some .free:=hy
   rcases hy with hy|hy
   . exact t4 hy
   . exact absurd rfl (S.nofree _ (PySem.mem_of_lookup hy))
 . exact Nat.le_of_lt (x.above y c (PySem.mem_of_lookup h))
 . have hi:i < vs.length:=by
    unfold start at h2
    by_cases hi:i<vs.length
    . exact hi
    . rw[List.getElem?_append_right (by simpa using hi)]at h2;rw[List.getElem?_replicate]at h2
      split at h2<;>cases h2
   have ha:vs[i]?=some v:=by
    unfold start at h2;rw[List.getElem?_append_left (by simpa using hi),List.getElem?_map]at h2
    cases e:vs[i]? with
    |none=>rw[e]at h2;cases h2
    |some a=>rw[e]at h2;cases h2;rfl
   obtain⟨u,hu,rv⟩:=r.get ha
   have hp:ps[i]?=some y:=by
    rw[<- S.pre,List.getElem?_take_of_lt (by omega)];exact h1
   have ndP:ps.Nodup:=by rw[<- S.pre];exact S.nd.sublist (List.take_sublist _ _)
   refine⟨u,rv,?_⟩
   rcases S.par y (List.mem_of_getElem? hp)with k|k
   . exact .inl ⟨k,se ndP hp hu k⟩
   . obtain⟨c,e⟩:=t4 (n:=s.heap.objs.size+1) k;refine .inr ⟨.inl k,c,e,?_⟩;have q:=x.cell y c e;rw[so ndP hp hu (by show scope.names.lookup y≠_;rw[k];decide)]at q;exact q
 . exact e0.hok.fresh (Nat.le_of_lt (x.above y c (PySem.mem_of_lookup h)))
 . unfold start;show _=N.length;rw[List.length_append,List.length_map,List.length_replicate];omega
theorem Fu{CX:CXT}{P:Program}{w:World}{K:PySem.W.Frag}{mg:Str->Option Value}{base:Heap}{k:Nat}{f:Addr}{name qual:Str}{params:Arguments}{body:List Stmt}{scope:Scope}{dV kV doc pm cdv ct oc:Value}{an od:Option Addr}
  {osl:Array (Option Value)} {N ps:List Str} {sp:Sp} (lk:K.lookup f=some ⟨oc,od,.func (PySem.W.fnOf name qual params body scope dV kV doc pm an cdv ct),osl⟩) (hcd:PySem.W.codeIn K cdv qual=true) (S:bu N ps scope)
  (len:∀ vs H Q E,sp vs H Q E->vs.length=ps.length)
  (hbody:∀(A:Around) (outer:List Env) (s:Shared) (H:Hp) (vs:List V) (Q:VK) (E:XK),ip k (A.deeper (envOfC qual scope s.heap.objs.size f cdv))->sp vs H Q E ->
    ∃ t,PSs (n8 CX P w K mg base N qual scope f cdv A outer s H E) body t /\ t { nx:=fun _ H'=>Q .non H',rt:=Q } (start N vs) H):
  cn P w K mg base CX (k+1) f (PySem.W.fnOf name qual params body scope dV kV doc pm an cdv ct) ps sp:=by
 refine⟨len,fun A outer s H args us vs Q E hr e0 hb r hsp=>?_⟩
 have hl:=len _ _ _ _ hsp
 have KX:K.In s.heap:=e0.mod.kin.keeps fun b o e=>(e0.bs b o e).1
 have lim:s.heap.NoLimit:=e0.mod.nolimit.keeps fun b o e=>(e0.bs b o e).1
 have hkind:∀ y∈ps.zip us,scope.names.lookup y.1=some .local \/ (scope.names.lookup y.1=some .cell /\ ((cellsFrom (s.heap.objs.size+1) scope.names []).lookup y.1).isSome=true):=fun ⟨n,v⟩ hy=>by
  rcases S.par n (List.of_mem_zip hy).1 with q|q
  . exact .inl q
  . exact .inr ⟨q,PySem.W.cellsFrom_some _ _ _ (.inl q)⟩
 refine codeAny_call_function hr.depth (KX _ _ lk) rfl S.co S.gen rfl (PySem.W.codeRec_of KX hcd) (hb _ _ _ _ ?_)
 refine wpAny_newFunctionEnv_cells S.kind hkind fun env he s1 x=>?_
 subst he
 refine⟨lim.keeps x.toInCall.keep,codeAny_func ?_⟩
 obtain⟨t,ht,hq⟩:=hbody A outer s H vs Q E (hr.deeper _) hsp
 have I:Inv (n8 CX P w K mg base N qual scope f cdv A outer s H E) [] (start N vs) H s1:=xP S hr.hd e0 hl r x
 refine wpAny_mono (ht [] s1 (start N vs) H _ I hq) (fun fl s' hs=>?_) fun e s' hs=>hs
 have fin:∀{σ':St} {H':Hp} {v:V} {u:Value},Inv (n8 CX P w K mg base N qual scope f cdv A outer s H E) [] σ' H' s'->RelV v u->Q v H'->CE outer P w H s Q u s':=
  fun {σ' H' v u} J rv q=>⟨v,H',J.os,J.bare,J.base,J.hok,rv,q⟩
 cases fl with
 | ret u=>
   obtain⟨v,σ',H',J,rv,q⟩:=hs;exact fin J rv q
 | next=>
   obtain⟨σ',H',J,q⟩:=hs;exact fin (v:=V.non) (u:=Value.none) J rfl q
 | brk=>
   obtain⟨_,_,_,q⟩:=hs;exact False.elim q
 | cont=>
   obtain⟨_,_,_,q⟩:=hs;exact False.elim q
section
variable{X:Cx}{x:Str}{p pos:Pos}{e:Expr}{es:List Expr}{t:TA}{id T:String}{r:List V->Hp->VK->Prop}
noncomputable def tCB(r:List V->Hp->VK->Prop)(t:TA):TE:=fun σ H Q=>t σ H fun vs H1=>r vs H1 Q
theorem za(hc:ko X (.builtin id) r)(hg:Gl X x)(hm:X.mg x=none)(hv:bootBuiltins x=some (.builtin id))(ha:PA X (e ::es) t)(hn:x ≠ "__name__":=by decide)(hdb:(x==("__debug__":Str))=false:=by decide)
  (he:starEach (e ::es) X.env=(false,eval e X.env) ::starEach es X.env:=by rfl) (hpl:(backTo pos (starEach es X.env)).any (·.1)=false:=by rfl):PE X (.Call (.Name x p) (e ::es) [] pos) (tCB r t):=by
 intro pins s σ H Q I h;refine wpAny_Call_Name_kw (tK I hg hm hv ?_ hn hdb);exact PyProof.Rows.callWith_builtin1 (thn (ha pos pins s σ H _ I h) fun us s1 ⟨vs,H1,I1,r1,q1⟩=>hc pins s1 σ H1 vs us Q I1 r1 q1) he hpl
theorem yk(hc:ko X (.type T) r)(hg:Gl X x)(hm:X.mg x=none)(hv:bootBuiltins x=some (.type T))(ha:PA X (e ::es) t)(hn:x ≠ "__name__":=by decide)(hdb:(x==("__debug__":Str))=false:=by decide)
  (he:starEach (e ::es) X.env=(false,eval e X.env) ::starEach es X.env:=by rfl) (hpl:(backTo pos (starEach es X.env)).any (·.1)=false:=by rfl):PE X (.Call (.Name x p) (e ::es) [] pos) (tCB r t):=by
 intro pins s σ H Q I h;refine wpAny_Call_Name_kw (tK I hg hm hv ?_ hn hdb);exact PyProof.Rows.callWith_type1 (thn (ha pos pins s σ H _ I h) fun us s1 ⟨vs,H1,I1,r1,q1⟩=>hc pins s1 σ H1 vs us Q I1 r1 q1) he hpl
end
end L2
namespace HT
open PySem PyProof.Rows
section
open PySem.SeqAt
open PySem.AutoSeq1 (wpAny_loadPart')
open PySem.MeetsSeq PySem.MeetsSeq2 PySem.MeetsSeq3
end
section
variable{prog:Program}{w:World}{A:Around}{E:Value->Shared->Prop}{s:Shared}
theorem Bc{t b:Addr}{vs ws:List Value}{Q:Value->Shared->Prop}(ht:IsTup s.heap t vs.toArray)(hb:IsTup s.heap b ws.toArray)(hv:vs≠[])
  (h1:ws=[]->Q (.ref t) s) (h2:ws≠[]->Q (.ref s.heap.objs.size) { s with heap:=s.heap.push { cls:=.type "tuple",data:=.seq (vs++ws).toArray } })
  (hsz:vs.length+ws.length<=sizeLine):wpAny (model prog w) A (binaryOp .Add (.ref t) (.ref b)) Q E s:=by
 obtain⟨⟨cls,dd,data,sl⟩,ho,hc,n,hd⟩:=id ht;obtain⟨⟨cls2,dd2,data2,sl2⟩,ho2,hc2,n2,hd2⟩:=id hb;simp only at hc hd hc2 hd2;subst hc hd hc2 hd2
 have e:vs.toArray++ws.toArray=(vs++ws).toArray:=by simp
 by_cases hw:ws=[]
 . exact concat_meets ⟨_,ho,rfl⟩ ⟨_,ho2,rfl⟩ noFill_tuple_add seq_tuple_add PySem.F.slot_tuple_add PySem.F.entry_tuple_add (PySem.F.args_tuple_add_2 _ _)
    (tuple_addW1 t b vs.toArray ws.toArray n n2 dd dd2 sl sl2 (by simpa using hv) (by simp[hw])) ⟨ho,ho2,h1 hw⟩
 . refine concat_meets ⟨_,ho,rfl⟩ ⟨_,ho2,rfl⟩ noFill_tuple_add seq_tuple_add PySem.F.slot_tuple_add PySem.F.entry_tuple_add (PySem.F.args_tuple_add_2 _ _)
    (tuple_addW2 t b vs.toArray ws.toArray n n2 dd dd2 sl sl2 (by simpa using hv) (by simpa using hw) (by rw[List.size_toArray,List.size_toArray];exact hsz)) ⟨ho,ho2,?_⟩
   rw[e];exact h2 hw
noncomputable def sIx(n d:Nat):Option Int->Nat
 |none=>d
 |some v=>if v<0 then(v+(n:Int)).toNat else min v.toNat n
theorem D4(n d:Nat)(hd:d<=n)(o:Option Int):sIx n d o<=n:=by
 cases o with
 |none=>exact hd
 | some v=>
   show(if v<0 then(v+(n:Int)).toNat else min v.toNat n)<=n
   by_cases hv:v<0
   . rw[if_pos hv];omega
   . rw[if_neg hv];exact Nat.min_le_right _ _
theorem xc(v:Int)(n d:Nat):(if v<0 then max (v+(n:Int)) 0 else min v (n:Int))=((sIx n d (some v):Nat):Int):=by
 show(if v<0 then max (v+(n:Int)) 0 else min v (n:Int))=(((if v<0 then(v+(n:Int)).toNat else min v.toNat n):Nat):Int)
 by_cases hv:v<0
 . simp only[if_pos hv];omega
 . simp only[if_neg hv];omega
theorem vR(lo hi:Option Int)(n:Nat):Builtin.Slice.sliceAdjust lo hi 1 (n:Int)=(((sIx n 0 lo:Nat):Int),((sIx n n hi:Nat):Int)):=by
 have h1:¬ ((1:Int)<0):=by omega
 unfold Builtin.Slice.sliceAdjust;simp only[h1,if_false];refine Prod.ext ?_ ?_
 . cases lo with
   |none=>rfl
   |some v=>exact xc v n 0
 . cases hi with
   |none=>rfl
   |some v=>exact xc v n n
theorem wu(i j:Nat):Builtin.Slice.slicePlaces (i:Int) (j:Int) 1=j - i:=by
 unfold Builtin.Slice.slicePlaces
 have h1:(1:Int)>0:=by omega
 simp only[h1,if_true,Int.ediv_one]
 split<;>omega
theorem qR{v:Value}{o:Option Int}{Q:Option Int->Shared->Prop}(p:IsPart v o)(h:Q o s):wpAny (model prog w) A (Builtin.Slice.slicePartIndex v) Q E s:=by
 cases p with
 |none=>exact slicePart_none h
 |int i t=>exact slicePart_int h
theorem jQ{sl:Addr}{vl vu:Value}{lo hi:Option Int}{n:Nat}{Q:Int×Int×Nat->Shared->Prop}(hs:s.heap.IsSliceOf sl vl vu .none)(pl:IsPart vl lo)(pu:IsPart vu hi)
  (h:Q (((sIx n 0 lo:Nat):Int),1,sIx n n hi - sIx n 0 lo) s):wpAny (model prog w) A (Builtin.Slice.sliceApplied (.ref sl) (pure (n:Int))) Q E s:=by
 obtain⟨os,hos,hcs,hds⟩:=id hs;unfold Builtin.Slice.sliceApplied Builtin.Slice.sliceFields;refine wpAny_bind (wpAny_bind (wpAny_field hos hds (x:=vl) rfl (wpAny_bind (wpAny_field hos hds (x:=vu) rfl (wpAny_bind (wpAny_field hos hds (x:=.none) rfl (wpAny_pure ?_)))))));refine wpAny_bind (slicePart_none ?_);show wpAny _ _ (if((1:Int)==0)=true then _ else _) _ _ s;rw[if_neg (by decide)];refine wpAny_bind (qR pl (wpAny_bind (qR pu (wpAny_bind (wpAny_pure ?_)))));show wpAny _ _ (match Builtin.Slice.sliceAdjust lo hi 1 (n:Int)with|(lo,hi)=>pure (lo,(1:Int),Builtin.Slice.slicePlaces lo hi 1)) _ _ s;rw[vR lo hi n];show wpAny _ _ (pure (((sIx n 0 lo:Nat):Int),(1:Int),Builtin.Slice.slicePlaces ((sIx n 0 lo:Nat):Int) ((sIx n n hi:Nat):Int) 1)) _ _ s;rw[wu];exact wpAny_pure h
theorem zK(xs:Array Value)(i k:Nat):((List.range k).filterMap fun (m:Nat)=>xs[((i:Int)+(m:Int)*1).toNat]?).toArray=((xs.toList.drop i).take k).toArray:=by
 have e:(fun (m:Nat)=>xs[((i:Int)+(m:Int)*1).toNat]?)=fun m=>xs[i+m]?:=by
  funext m
  have:((i:Int)+(m:Int)*1).toNat=i+m:=by omega
  rw[this]
 rw[e];have:=pick_run xs i k;rw[List.filterMap_map]at this
 have e2:((fun x=>xs[x]?) ∘ fun x=>i+x)=fun m=>xs[i+m]?:=rfl
 rw[e2]at this;rw[this]
theorem oU{t sl:Addr}{items:Array Value}{vl vu:Value}{lo hi:Option Int}{Q:Value->Shared->Prop}(ht:IsTup s.heap t items)(hs:s.heap.IsSliceOf sl vl vu .none)(pl:IsPart vl lo)(pu:IsPart vu hi)
  (hw:¬ (sIx items.size 0 lo=0 /\ sIx items.size items.size hi=items.size))
  (h:Q (.ref s.heap.objs.size) { s with heap:=s.heap.push { cls:=.type "tuple",data:=.seq ((items.toList.drop (sIx items.size 0 lo)).take (sIx items.size items.size hi - sIx items.size 0 lo)).toArray } })
  (hsz:items.size<=sizeLine):wpAny (model prog w) A (getItem (.ref t) (.ref sl)) Q E s:=by
 have htake:sizeOk (.seq ((items.toList.drop (sIx items.size 0 lo)).take (sIx items.size items.size hi - sIx items.size 0 lo)).toArray):=by
  show((items.toList.drop (sIx items.size 0 lo)).take (sIx items.size items.size hi - sIx items.size 0 lo)).toArray.size<=sizeLine
  rw[List.size_toArray,List.length_take,List.length_drop,Array.length_toList];omega
 have hj:sIx items.size items.size hi<=items.size:=D4 _ _ (Nat.le_refl _) hi
 obtain⟨os,hos,hcs,hds⟩:=id hs
 have hTs:s.TypeIs (.ref sl) "slice":=⟨os,hos,hcs⟩
 unfold getItem
 try with_reducible refine wpAny_holding ?_
 first|refine wpAny_bind (wpAny_pure ?_)|skip
 refine wpAny_bind (wpAny_sequenceKey ht.typeIs (by decide) ?_)
 refine wpAny_bind (wpAny_callSpecial?_slot (name:=Str.ofString "__getitem__") ht.typeIs PyProof.Rows.slot_tuple_getitem
  (wpAny_call_entry PyProof.Rows.slot_tuple_getitem ht.typeIs entry_tuple_getitem ?_ (args_tuple_getitem _ _)))
 show wpAny _ _ (Builtin.Tuple.tupleItemsOf (.ref t) >>= _) _ _ s;refine wpAny_bind (tupleItemsOf_ ht ?_);refine wpAny_bind (wpAny_typeOf hTs ?_);rw[if_pos (by decide)];refine wpAny_bind (jQ hs pl pu ?_)
 have hno:¬ ((((sIx items.size 0 lo:Nat):Int)==0&&(1:Int)==1&&(sIx items.size items.size hi - sIx items.size 0 lo)==items.size)=true):=by
  intro q;rw[Bool.and_eq_true,Bool.and_eq_true]at q
  have q1:((sIx items.size 0 lo:Nat):Int)=0:=eq_of_beq q.1.1
  have q2:sIx items.size items.size hi - sIx items.size 0 lo=items.size:=eq_of_beq q.2
  exact hw ⟨by omega,by omega⟩
 show wpAny _ _ (if(((sIx items.size 0 lo:Nat):Int)==0&&(1:Int)==1&&(sIx items.size items.size hi - sIx items.size 0 lo)==items.size)=true then _ else _) _ _ s;rw[if_neg hno,zK]
 first
  |exact wpAny_bind (m:=Builtin.Tuple.tupleExact _) (wpAny_newObj_type (wpAny_pure ⟨_,rfl,wpAny_pure h⟩) htake)
  |exact wpAny_bind (m:=Builtin.Tuple.tupleExact _) (wpAny_newObj_type (wpAny_bind (wpAny_pure (wpAny_pure ⟨_,rfl,wpAny_pure h⟩))) htake)
  |exact wpAny_bind (wpAny_bind (m:=Builtin.Tuple.tupleExact _) (wpAny_newObj_type (wpAny_pure (wpAny_pure ⟨_,rfl,wpAny_pure h⟩)) htake))
  |exact wpAny_bind (wpAny_bind (m:=Builtin.Tuple.tupleExact _) (wpAny_newObj_type (wpAny_pure ⟨_,rfl,wpAny_pure h⟩) htake))
end
end HT
namespace L2
open PySem PySem.Spec PyProof.Rows
abbrev TO:=St->Hp->(Option Int->Hp->Prop)->Prop
noncomputable def PO(X:Cx)(e:Option Expr)(t:TO):Prop:=
 ∀(pins:List (Addr×Obj)) (s:Shared) (σ:St) (H:Hp) (Q:Option Int->Hp->Prop),Inv X pins σ H s->t σ H Q ->
   wpAny (model X.prog X.w) X.A (evalPart e X.env) (fun u s'=>∃ o H',Inv X pins σ H' s' /\ IsPart u o /\ Q o H') X.xe s
noncomputable def sR:TO:=fun _ H Q=>Q none H
noncomputable def yU(t:TE):TO:=fun σ H Q=>t σ H fun x H1=>∃ i,x=.int i /\ Q (some i) H1
section
variable{X:Cx}{e:Expr}{te:TE}{lo hi:Option Expr}{tl th:TO}{pos p2:Pos}
theorem AV:PO X none sR:=by
 intro pins s σ H Q I h;rw[evalPart_none];exact wpAny_pure ⟨none,H,I,.none,h⟩
theorem Bm(h:PE X e te):PO X (some e) (yU te):=by
 intro pins s σ H Q I hw;rw[evalPart_some]
 refine thn (h pins s σ H _ I hw) fun u s1 ⟨x,H1,I1,r1,q1⟩=>?_
 obtain⟨i,rfl,q⟩:=q1;obtain⟨t,rfl⟩:=r1
 exact⟨some i,H1,I1,.int i t,q⟩
noncomputable def SlR(X:Cx)(r:V->Option Int->Option Int->Hp->VK->Prop):Prop:=
 ∀(pins:List (Addr×Obj)) (s:Shared) (σ:St) (H:Hp) (x:V) (v vl vu:Value) (lo hi:Option Int) (sl:Addr) (Q:VK),Inv X pins σ H s->RelV x v->s.heap.IsSliceOf sl vl vu .none->IsPart vl lo->IsPart vu hi->r x lo hi H Q ->
   ∃ T id,typeLookup (.type T) "__getitem__" = pure (some (.builtin id)) /\ s.TypeIs v T /\ wpAny (model X.prog X.w) X.A (getItem v (.ref sl)) (EP X pins σ Q) X.xe s
noncomputable def tSl(r:V->Option Int->Option Int->Hp->VK->Prop)(te:TE)(tl th:TO):TE:=fun σ H Q=>te σ H fun x H1=>tl σ H1 fun l H2=>th σ H2 fun u H3=>r x l u H3 Q
theorem zG{r:V->Option Int->Option Int->Hp->VK->Prop}(hr:SlR X r)(he:PE X e te)(hl:PO X lo tl)(hu:PO X hi th):PE X (.Subscript e (.Slice lo hi none p2) pos) (tSl r te tl th):=by
 intro pins s σ H Q I h;refine Subscript_ (thn (he pins s σ H _ I h) fun v s1 ⟨x,H1,I1,r1,q1⟩=>?_);refine wpAny_Slice (thn (hl pins s1 σ H1 _ I1 q1) fun vl s2 ⟨l,H2,I2,pl,q2⟩=>thn (hu pins s2 σ H2 _ I2 q2) fun vu s3 ⟨u,H3,I3,pu,q3⟩=>?_);rw[evalPart_none];refine wpAny_pure ?_
 have I4:Inv X pins σ H3 { s3 with heap:=s3.heap.push { cls:=.type "slice",data:=.fields #[vl,vu,.none] } }:=I3.kept (t':=s3.toks) fun b ob q=>Heap.get?_push_of_some _ q
 obtain⟨T,id,hT,ht,hg⟩:=hr pins { s3 with heap:=s3.heap.push { cls:=.type "slice",data:=.fields #[vl,vu,.none] } } σ H3 x v vl vu l u s3.heap.objs.size Q I4 r1 (Heap.IsSliceOf.new ..) pl pu q3;show wpAny (model X.prog X.w) X.A (subscriptTail e (.Slice lo hi none p2) v (.ref s3.heap.objs.size)) (EP X pins σ Q) X.xe { s3 with heap:=s3.heap.push { cls:=.type "slice",data:=.fields #[vl,vu,.none] } };exact tail_any (ops:=[.ref s3.heap.objs.size,v]) ht hT hg (by with_unfolding_all rfl)
noncomputable def p8(xs:List V)(lo hi:Option Int):List V:=(xs.drop (HT.sIx xs.length 0 lo)).take (HT.sIx xs.length xs.length hi - HT.sIx xs.length 0 lo)
theorem pQ(xs:List V)(lo hi:Option Int):(p8 xs lo hi).length<=xs.length:=by
 unfold p8;rw[List.length_take,List.length_drop];omega
noncomputable def GG(K:PySem.W.Frag):V->Option Int->Option Int->Hp->VK->Prop:=fun x lo hi H Q=>∃ a xs,x=.ref a /\ SqT K H a xs /\
 ¬ (HT.sIx xs.length 0 lo=0 /\ HT.sIx xs.length xs.length hi=xs.length) /\ ∀ p,H p=none->Q (.ref p) (upd H p (.tup (p8 xs lo hi)))
theorem Dh:SlR X (GG X.K):=by
 intro pins s σ H x v vl vu lo hi sl Q I rx hs pl pu h;obtain⟨a,xs,rfl,hx,hw,q⟩:=h;cases rx;obtain⟨its,r,ht,hz⟩:=I.tuple hx
 have hlen:its.toArray.size=xs.length:=by rw[List.size_toArray];exact r.length.symm
 refine⟨"tuple",_,PyProof.Rows.slot_tuple_getitem.lookup,ht.typeIs,?_⟩
 refine HT.oU ht hs pl pu (by rw[hlen];exact hw) ?_ (by rw[hlen];exact hz);rw[hlen]
 refine⟨.ref s.heap.objs.size,_,I.laid (t':=s.toks) (o:=.tup (p8 xs lo hi)) (fun b ob q=>Heap.get?_push_of_some _ q) (Nat.le_refl _) ?_,rfl,q _ (I.hok.fresh (Nat.le_refl _))⟩
 exact⟨⟨Nat.le_trans (pQ xs lo hi) hz,.new _ _⟩,_,(r.drop (HT.sIx xs.length 0 lo)).take (HT.sIx xs.length xs.length hi - HT.sIx xs.length 0 lo),IsTup.new _ _⟩
noncomputable def zk(K:PySem.W.Frag):R2:=fun x y H Q=>∃ a b xs ys,x=.ref a /\ y=.ref b /\ SqT K H a xs /\ SqT K H b ys /\ xs≠[] /\ xs.length+ys.length<=sizeLine /\
 (ys=[]->Q (.ref a) H) /\ (ys≠[]->∀ p,H p=none->Q (.ref p) (upd H p (.tup (xs++ys))))
theorem Vals.ql{xs:List V}{us:List Value}(r:Vals xs us):us=[]↔xs=[]:=by
 cases r with
 |nil=>simp
 |cons _ _=>simp
theorem AJ:OpR X (binaryOp .Add) (zk X.K):=by
 intro pins s σ H x y v u Q I rx ry h;obtain⟨a,b,xs,ys,rfl,rfl,ha,hb,hx,hz,q1,q2⟩:=h;cases rx;cases ry;obtain⟨its,r1,p1,_⟩:=I.tuple ha;obtain⟨its2,r2,p2,_⟩:=I.tuple hb;refine HT.Bc p1 p2 (fun z=>hx (r1.ql.mp z)) (fun z=>⟨.ref a,H,I,rfl,q1 (r2.ql.mp z)⟩) (fun z=>?_) (by rw[<- r1.length,<- r2.length];exact hz)
 refine⟨.ref s.heap.objs.size,_,I.laid (t':=s.toks) (o:=.tup (xs++ys)) (fun b ob q=>Heap.get?_push_of_some _ q) (Nat.le_refl _) ?_,rfl,q2 (fun w=>z (r2.ql.mpr w)) _ (I.hok.fresh (Nat.le_refl _))⟩
 exact⟨⟨by rw[List.length_append];exact hz,.new _ _⟩,_,r1.append r2,IsTup.new _ _⟩
end
noncomputable def ixN(n:Nat)(i:Int):Option Nat:=if 0<=i then(if i<n then some i.toNat else none)else if -(n:Int)<=i then some (i+n).toNat else none
noncomputable def atI{α:Type}(xs:List α)(i:Int):Option α:=(ixN xs.length i).bind fun j=>xs[j]?
theorem BD{n:Nat}{i:Int}{j:Nat}(h:ixN n i=some j):seqIndex? i n=some j /\ j<n /\ -(n:Int)<=i /\ i<n:=by
 unfold ixN at h
 by_cases h0:0<=i
 . rw[if_pos h0]at h
   by_cases h1:i<n
   . rw[if_pos h1]at h
     have e:i.toNat=j:=Option.some.inj h
     exact⟨by rw[seqIndex_of h0 h1,e],by omega,by omega,h1⟩
   . rw[if_neg h1]at h;cases h
 . rw[if_neg h0]at h
   by_cases h1:-(n:Int)<=i
   . rw[if_pos h1]at h
     have e:(i+n).toNat=j:=Option.some.inj h
     exact⟨by rw[seqIndex_neg (by omega) h1,e],by omega,h1,by omega⟩
   . rw[if_neg h1]at h;cases h
theorem wD{α:Type}{xs:List α}{i:Int}{v:α}(h:atI xs i=some v):∃ j,seqIndex? i xs.length=some j /\ xs[j]?=some v /\ j<xs.length /\ -(xs.length:Int)<=i /\ i<xs.length:=by
 unfold atI at h
 cases e:ixN xs.length i with
 |none=>rw[e]at h;cases h
 | some j=>
   rw[e]at h;obtain⟨h1,h2,h3,h4⟩:=BD e
   exact⟨j,h1,h,h2,h3,h4⟩
noncomputable def tG(b:Expr):Prop:=∀ o i,subscripted b false o i=operate [o,i] (getItem o i)
noncomputable def IxR(X:Cx)(r:R2):Prop:=
 ∀(value slice:Expr) (pins:List (Addr×Obj)) (s:Shared) (σ:St) (H:Hp) (x y:V) (v u:Value) (Q:VK),Inv X pins σ H s->RelV x v->RelV y u->r x y H Q ->
   subscripted slice false v u=operate [v,u] (getItem v u)->wpAny (model X.prog X.w) X.A (subscriptTail value slice v u) (EP X pins σ Q) X.xe s
noncomputable def MtR(X:Cx)(id:String)(r:V->List V->Hp->VK->Prop):Prop:=
 ∀(pins:List (Addr×Obj)) (s:Shared) (σ:St) (H:Hp) (x:V) (xs:List V) (v:Value) (us:List Value) (Q:VK),Inv X pins σ H s->RelV x v->Vals xs us->r x xs H Q ->
   wpAny (model X.prog X.w) X.A (call (.builtin id) (v ::us)) (EP X pins σ Q) X.xe s
section
variable{X:Cx}{a b:Expr}{ta tb:TE}{pos:Pos}
theorem Fg{r:R2}(hr:IxR X r)(ha:PE X a ta)(hb:PE X b tb)(hs:tG b):PE X (.Subscript a b pos) (tOp r ta tb):=by
 intro pins s σ H Q I h;exact Subscript_ (DU ha hb I h fun v u s2 x y H2 I2 rx ry q=>hr a b pins s2 σ H2 x y v u Q I2 rx ry q (hs _ _))
noncomputable def BI(K:PySem.W.Frag):R2:=fun x y H Q=>∃ p xs i v,x=.ref p /\ y=.int i /\ SqL K H p xs /\ atI xs i=some v /\ Q v H
noncomputable def Fv(K:PySem.W.Frag):R2:=fun x y H Q=>∃ p xs i v,x=.ref p /\ y=.int i /\ SqT K H p xs /\ atI xs i=some v /\ Q v H
theorem bx:IxR X (BI X.K):=by
 intro value slice pins s σ H x y v u Q I rx ry h hs;obtain⟨p,xs,i,z,rfl,rfl,hq,he,q⟩:=h;cases rx;obtain⟨t,rfl⟩:=ry;obtain⟨its,r,pl,hz⟩:=I.list hq;obtain⟨j,h1,h2,h3,h4,h5⟩:=wD he;obtain⟨w,ew,rw'⟩:=r.get h2;have hl:=r.length;have hn:=sQ
 have fin:EP X pins σ Q w s:=⟨z,H,I,rw',q⟩
 by_cases h0:0<=i
 . have hj:i.toNat = j:=by
    rw[seqIndex_of h0 h5]at h1;exact Option.some.inj h1
   exact item_listR pl.isList h0 (by omega) (by rw[hj];simpa using ew) fin hs
 . have hj:(i + (its.toArray.size:Int)).toNat = j:=by
    rw[seqIndex_neg (by omega) h4]at h1;rw[List.size_toArray,<- hl];exact Option.some.inj h1
   exact subscriptTail_builtinR (x:=w) pl.isList.typeIs slot_list_getitem.lookup
    (wpAny_getItem_list_neg (Q:=fun r s'=>r=w /\ EP X pins σ Q r s') pl.isList (by omega) (by rw[List.size_toArray]<;>omega) (by omega) (by rw[hj];simpa using ew) ⟨rfl,fin⟩) hs
theorem aB:IxR X (Fv X.K):=by
 intro value slice pins s σ H x y v u Q I rx ry h hs;obtain⟨p,xs,i,z,rfl,rfl,hq,he,q⟩:=h;cases rx;obtain⟨t,rfl⟩:=ry;obtain⟨its,r,pl,hz⟩:=I.tuple hq;obtain⟨j,h1,h2,h3,h4,h5⟩:=wD he;obtain⟨w,ew,rw'⟩:=r.get h2;have hl:=r.length;have hn:=sQ
 have fin:EP X pins σ Q w s:=⟨z,H,I,rw',q⟩
 exact subscriptTail_builtinR (x:=w) pl.typeIs slot_tuple_getitem.lookup
  (getItem_tuple (j:=j) (Q:=fun r s'=>r=w /\ EP X pins σ Q r s') pl (by omega) (by omega) (by rw[List.size_toArray,<- hl];exact h1) (by simpa using ew) ⟨rfl,fin⟩) hs
theorem Inv.lst{pins:List (Addr×Obj)}{σ:St}{H:Hp}{s:Shared}{p:Addr}{xs:List V}(I:Inv X pins σ H s)(h:H p=some (.lst xs)):
  ∃(its:List Value) (n:Nat),Vals xs its /\ s.heap.get? p=some { cls:=.type "list",data:=.seq its.toArray n } /\ xs.length<=sizeLine:=by
 obtain⟨z,its,n,r,e⟩:=I.hok p _ h
 exact⟨its,n,r,e,z⟩
theorem tI(lo hi:Option Int)(n:Nat):(sliceBounds lo hi none n).1=((HT.sIx n 0 lo:Nat):Int) /\ (sliceBounds lo hi none n).2.1=((HT.sIx n n hi:Nat):Int) /\ (sliceBounds lo hi none n).2.2=1:=by
 refine⟨?_,?_,rfl⟩
 . cases lo with
   |none=>simp[sliceBounds,HT.sIx]
   | some i=>
     simp only[sliceBounds,HT.sIx,Option.getD_none,show(1:Int)>0 by decide,if_true]
     by_cases h:i<0
     . simp only[h,if_true]<;>omega
     . simp only[h,if_false]<;>omega
 . cases hi with
   |none=>simp[sliceBounds,HT.sIx]
   | some i=>
     simp only[sliceBounds,HT.sIx,Option.getD_none,show(1:Int)>0 by decide,if_true]
     by_cases h:i<0
     . simp only[h,if_true]<;>omega
     . simp only[h,if_false]<;>omega
theorem rK(its:List Value)(lo hi:Option Int):slicePick its.toArray lo hi none=((its.drop (HT.sIx its.length 0 lo)).take (HT.sIx its.length its.length hi - HT.sIx its.length 0 lo)).toArray:=by
 obtain⟨h1,h2,h3⟩:=tI lo hi its.toArray.size;unfold slicePick;rw[h1,h2,h3]
 simp only[sliceRange_one,pick_run,List.size_toArray]<;>rfl
noncomputable def G5(K:PySem.W.Frag):V->Option Int->Option Int->Hp->VK->Prop:=fun x lo hi H Q=>∃ a xs,x=.ref a /\ SqL K H a xs /\ ∀ p,H p=none->Q (.ref p) (upd H p (.lst (p8 xs lo hi)))
theorem FV:SlR X (G5 X.K):=by
 intro pins s σ H x v vl vu lo hi sl Q I rx hs pl pu h;obtain⟨a,xs,rfl,hx,q⟩:=h;cases rx;obtain⟨its,r,ht,hz⟩:=I.list hx;have hlen:=r.length
 refine⟨"list",_,slot_list_getitem.lookup,ht.isList.typeIs,?_⟩
 refine wpAny_getItem_list_slice ht.isList hs pl pu .none (by simp) ?_ (by rw[List.size_toArray]<;>omega);rw[rK,<- hlen]
 refine⟨.ref s.heap.objs.size,_,I.laid (t':=s.toks) (o:=.lst (p8 xs lo hi)) (fun b ob q=>Heap.get?_push_of_some _ q) (Nat.le_refl _) ?_,rfl,q _ (I.hok.fresh (Nat.le_refl _))⟩
 exact⟨Nat.le_trans (pQ xs lo hi) hz,_,0,(r.drop (HT.sIx xs.length 0 lo)).take (HT.sIx xs.length xs.length hi - HT.sIx xs.length 0 lo),Heap.get?_push_size _ rfl⟩
noncomputable def mN:V->Bool
 |.non=>true
 |.bl _=>true
 |.int _=>true
 |.str _=>true
 |_=>false
noncomputable def eqV:V->V->Bool
 |.non,.non=>true
 |.bl a,.bl b=>a==b
 |.bl a,.int b=>(if a then 1 else 0)==b
 |.int a,.bl b=>a==(if b then 1 else 0)
 |.int a,.int b=>a==b
 |.str a,.str b=>a==b
 |_,_=>false
theorem DZ{A:Around}{s:Shared}{y x:V}{u v:Value}(ry:RelV y u)(rx:RelV x v)(fy:mN y=true)(fx:mN x=true):SeqAt.EqAt A s u v (eqV y x):=by
 cases y with
 | non=>
   cases ry
   cases x with
   |non=>cases rx;exact SeqAt.EqAt.same _
   |bl b=>cases rx;exact SeqAt.EqAt.none_bool b
   |int b=>obtain⟨t,rfl⟩:=rx;exact SeqAt.EqAt.none_int b t
   |str b=>obtain⟨t,rfl⟩:=rx;exact SeqAt.EqAt.none_str b t
   |_=>exact absurd (show false=true from fx) Bool.false_ne_true
 | bl a=>
   cases ry
   cases x with
   |non=>cases rx;exact SeqAt.EqAt.bool_none a
   |bl b=>cases rx;exact SeqAt.EqAt.bool_bool a b
   |int b=>obtain⟨t,rfl⟩:=rx;exact SeqAt.EqAt.bool_int a b t
   |str b=>obtain⟨t,rfl⟩:=rx;exact SeqAt.EqAt.bool_str a b t
   |_=>exact absurd (show false=true from fx) Bool.false_ne_true
 | int a=>
   obtain⟨t',rfl⟩:=ry
   cases x with
   |non=>cases rx;exact SeqAt.EqAt.int_none a t'
   |bl b=>cases rx;exact SeqAt.EqAt.int_bool a t' b
   |int b=>obtain⟨t,rfl⟩:=rx;exact SeqAt.EqAt.int_int a t' b t
   |str b=>obtain⟨t,rfl⟩:=rx;exact SeqAt.EqAt.int_str a t' b t
   |_=>exact absurd (show false=true from fx) Bool.false_ne_true
 | str a=>
   obtain⟨t',rfl⟩:=ry
   cases x with
   |non=>cases rx;exact SeqAt.EqAt.str_none a t'
   |bl b=>cases rx;exact SeqAt.EqAt.str_bool a t' b
   |int b=>obtain⟨t,rfl⟩:=rx;exact SeqAt.EqAt.str_int a t' b t
   |str b=>obtain⟨t,rfl⟩:=rx;exact SeqAt.EqAt.str_str a t' b t
   |_=>exact absurd (show false=true from fx) Bool.false_ne_true
 |_=>exact absurd (show false=true from fy) Bool.false_ne_true
noncomputable def eqU(x:V)(u:Value):Bool:=match u with
 |.none=>eqV .non x
 |.bool b=>eqV (.bl b) x
 |.int i _=>eqV (.int i) x
 |.str z _=>eqV (.str z) x
 |_=>false
theorem yA{x y:V}{u:Value}(r:RelV y u)(f:mN y=true):eqU x u=eqV y x:=by
 cases y with
 |non=>cases r;rfl
 |bl b=>cases r;rfl
 |int i=>obtain⟨t,rfl⟩:=r;rfl
 |str z=>obtain⟨t,rfl⟩:=r;rfl
 |_=>exact absurd (show false=true from f) Bool.false_ne_true
theorem sV{x:V}:∀{xs:List V} {us:List Value},Vals xs us->xs.all mN=true->us.any (eqU x)=xs.any fun y=>eqV y x
 |_,_,.nil,_=>rfl
 | y ::xs,u ::us,.cons r t,f=>by
   rw[List.all_cons,Bool.and_eq_true]at f;rw[List.any_cons,List.any_cons,yA r f.1,sV t f.2]
theorem qD{A:Around}{s:Shared}{x:V}{v:Value}(rx:RelV x v)(fx:mN x=true):∀{xs:List V} {us:List Value},Vals xs us->xs.all mN=true->∀ u∈us,SeqAt.EqAt A s u v (eqU x u)
 |_,_,.nil,_=>fun u hu=>by cases hu
 | y ::xs,u ::us,.cons r t,f=>fun u' hu=>by
   rw[List.all_cons,Bool.and_eq_true]at f
   rcases List.mem_cons.mp hu with rfl|hu
   . rw[yA r f.1];exact DZ r rx f.1 fx
   . exact qD rx fx t f.2 u' hu
noncomputable def inV(x:V)(xs:List V):Bool:=xs.any fun y=>eqV y x
noncomputable def rIn(K:PySem.W.Frag)(neg:Bool):R2:=fun x y H Q=>∃ p xs,y=.ref p /\ (SqL K H p xs \/ SqT K H p xs) /\ mN x=true /\ xs.all mN=true /\ Q (.bl (if neg then !inV x xs else inV x xs)) H
theorem x8:OpR X (compareOp .In) (rIn X.K false):=by
 intro pins s σ H x y v u Q I rx ry h;obtain⟨p,xs,rfl,hq,fx,fs,q⟩:=h;cases ry
 rcases hq with hq|hq
 . obtain⟨its,r,pl,hz⟩:=I.list hq;refine SeqAt.in_listAt (eqU x) pl.isList (fun w hw=>qD rx fx r fs w (by simpa using hw)) ⟨.bl _,H,I,rfl,?_⟩;rw[show its.toArray.any (eqU x)=its.any (eqU x) by simp,sV r fs];exact q
 . obtain⟨its,r,pl,hz⟩:=I.tuple hq;refine SeqAt.in_tupleAt (eqU x) pl (fun w hw=>qD rx fx r fs w (by simpa using hw)) ⟨.bl _,H,I,rfl,?_⟩;rw[show its.toArray.any (eqU x)=its.any (eqU x) by simp,sV r fs];exact q
theorem tS:ko X (.builtin "len") (fun xs H Q=>∃ p ys,xs=[.ref p] /\ (SqL X.K H p ys \/ SqT X.K H p ys) /\ Q (.int ys.length) H):=by
 intro pins s σ H xs us Q I r h;obtain⟨p,ys,rfl,hq,q⟩:=h;obtain⟨u,rfl,rx⟩:=vals1 r;cases rx;have hn:=sQ
 rcases hq with hq|hq
 . obtain⟨its,r',pl,hz⟩:=I.list hq;have hlen:=r'.length;exact Calls.call_len_list pl.isList (by simp only[List.size_toArray]<;>omega) ⟨.int ys.length,H,I.tok _,⟨s.toks+1,by rw[List.size_toArray,hlen]⟩,q⟩
 . obtain⟨its,r',pl,hz⟩:=I.tuple hq;have hlen:=r'.length;exact len_tuple pl (by simp only[List.size_toArray]<;>omega) ⟨.int ys.length,H,I.tok _,⟨s.toks+1,by rw[List.size_toArray,hlen]⟩,q⟩
theorem eP:ko X (.type "tuple") (fun xs H Q=>∃ p ys,xs=[.ref p] /\ ((SqL X.K H p ys /\ ∀ l,H l=none->Q (.ref l) (upd H l (.tup ys))) \/ (SqT X.K H p ys /\ Q (.ref p) H))):=by
 intro pins s σ H xs us Q I r h;obtain⟨p,ys,rfl,h⟩:=h;obtain⟨u,rfl,rx⟩:=vals1 r;cases rx
 rcases h with⟨hq,q⟩|⟨hq,q⟩
 . obtain⟨its,r',pl,hz⟩:=I.list hq;have hlen:=r'.length;refine call_tuple_list pl.isList (fun h' kp=>?_) (by simp only[List.size_toArray]<;>omega)
   have I1:Inv X pins σ H { s with heap:=h' }:=I.kept (t':=s.toks) kp
   have I2:Inv X pins σ (upd H h'.objs.size (.tup ys)) { s with heap:=h'.push { cls:=.type "tuple",data:=.seq its.toArray } }:=
    I1.laid (t':=s.toks) (fun b o e=>Heap.get?_push_of_some _ e) (Nat.le_refl _) (show fP X.prog X.w _ _ _ (.tup ys) from⟨⟨hz,.new _ _⟩,its,r',IsTup.new _ _⟩)
   exact⟨.ref h'.objs.size,_,I2,rfl,q _ (I1.hok.fresh (Nat.le_refl _))⟩
 . obtain⟨its,r',pl,hz⟩:=I.tuple hq;exact call_tuple_same pl ⟨.ref p,H,I,rfl,q⟩
noncomputable def tyV(K:PySem.W.Frag)(T:String)(x:V)(H:Hp):Prop:=match x with
 |.str _=>T = "str"
 |.int _=>T = "int"
 | .ref p=>(T = "list" /\ ∃ xs,SqL K H p xs) \/ (T = "tuple" /\ ∃ o,K.lookup p = some o /\ o.cls = .type "tuple" /\ o.dict = none) \/
    (T = "dict" /\ ((∃ kvs,H p=some (.dK kvs)) \/ ∃ kvs,H p=some (.dT kvs))) \/ (T = "set" /\ ∃ S n,H p=some (.set S n))
 |_=>False
theorem zJ{pins:List (Addr×Obj)}{σ:St}{H:Hp}{s:Shared}{T:String}{x:V}{v:Value}(I:Inv X pins σ H s)(r:RelV x v)(ty:tyV X.K T x H):
  s.TypeIs v T /\ ∀ a,v=.ref a->∃ ob,s.heap.get? a=some ob /\ ob.dict=none:=by
 cases x with
 | str z=>
   obtain⟨t,rfl⟩:=r
   cases(show T = "str" from ty)
   exact⟨typeIs_str s z t,fun _ e=>nomatch e⟩
 | int i=>
   obtain⟨t,rfl⟩:=r
   cases(show T = "int" from ty)
   exact⟨typeIs_int s i t,fun _ e=>nomatch e⟩
 | ref p=>
   cases r
   rcases ty with⟨rfl,xs,hq⟩|⟨rfl,o,hk,hc,hd⟩|⟨rfl,hk⟩|⟨rfl,S,n,hk⟩
   . obtain⟨its,_,pl,_⟩:=I.list hq
     refine⟨pl.isList.typeIs,fun a e=>?_⟩
     cases e;obtain⟨o,n,e,c,hd,_⟩:=pl
     exact⟨o,e,hd⟩
   . refine⟨⟨o,I.kIn p o hk,hc⟩,fun a e=>?_⟩
     cases e
     exact⟨o,I.kIn _ o hk,hd⟩
   . have z:∃ o,s.heap.get? p = some o /\ o.ExactDict:=by
      rcases hk with⟨kvs,hk⟩|⟨kvs,hk⟩
      . obtain⟨_,_,_,_,o,_,_,e,ex,_⟩:=I.hok p _ hk
        exact⟨o,e,ex⟩
      . obtain⟨_,_,_,_,o,_,_,e,ex,_⟩:=I.hok p _ hk
        exact⟨o,e,ex⟩
     obtain⟨o,e,ex⟩:=z
     refine⟨⟨o,e,ex.1⟩,fun a e2=>?_⟩
     cases e2
     exact⟨o,e,ex.2.1⟩
   . obtain⟨o,_,_,_,e,ex,_⟩:=I.hok p _ hk
     refine⟨⟨o,e,ex.1⟩,fun a e2=>?_⟩
     cases e2
     exact⟨o,e,ex.2.1⟩
 |_=>exact False.elim ty
noncomputable def BF(K:PySem.W.Frag)(T:String)(r:V->List V->Hp->VK->Prop)(to:TE):TE:=fun σ H Q=>to σ H fun x H1=>tyV K T x H1 /\ r x [] H1 Q
noncomputable def tBM(K:PySem.W.Frag)(T:String)(r:V->List V->Hp->VK->Prop)(to:TE)(t:TA):TE:=fun σ H Q=>to σ H fun x H1=>tyV K T x H1 /\ t σ H1 fun xs H2=>r x xs H2 Q
variable{o e:Expr}{es:List Expr}{to:TE}{t:TA}{name:Str}{apos cpos:Pos}{T id:String}{r:V->List V->Hp->VK->Prop}
theorem DW(pa:PlainAttrs T)(slot:Slot T name id)(hty:typeOf (.builtin id)=pure (.type "method_descriptor"))(hm:MtR X id r)(ho:PE X o to)
  (hbase:attributeBase o name X.env (eval o X.env)=eval o X.env:=by rfl) (hline:(apos.endLine==cpos.line)=true:=by rfl):PE X (.Call (.Attribute o name apos) [] [] cpos) (BF X.K T r to):=by
 intro pins s σ H Q I h;refine wpAny_Call_method0_late hbase hline (thn (ho pins s σ H _ I h) fun v s1 ⟨x,H1,I1,r1,ty,q1⟩=>?_);obtain⟨h1,h2⟩:=zJ I1 r1 ty
 exact⟨T,id,pa,slot,hty,h1,h2,Calls.callWith_builtin rfl (PySem.evalArgs_none (hm pins s1 σ H1 x [] v [] Q I1 r1 .nil q1))⟩
theorem EE(pa:PlainAttrs T)(slot:Slot T name id)(hty:typeOf (.builtin id)=pure (.type "method_descriptor"))(hm:MtR X id r)(ho:PE X o to)(ha:PA X (e ::es) t)
  (hbase:attributeBase o name X.env (eval o X.env)=eval o X.env:=by rfl)
  (hfew:((backTo cpos (starEach (e ::es) X.env)).all (fun x=>!x.1)&&(backToKw cpos (keywordEach [] X.env)).all (fun x=>x.1.isSome)
    && decide ((e ::es).length+([]:List Keyword).length+(if([]:List Keyword).isEmpty then 0 else 1)<30))=true:=by rfl)
  (hline:(apos.endLine==cpos.line)=true:=by rfl) (hs:starEach (e ::es) X.env=(false,eval e X.env) ::starEach es X.env:=by rfl) (hplain:(backTo cpos (starEach es X.env)).any (·.1)=false:=by rfl):
  PE X (.Call (.Attribute o name apos) (e ::es) [] cpos) (tBM X.K T r to t):=by
 intro pins s σ H Q I h;refine wpAny_Call_method_late hbase hfew hline rfl (thn (ho pins s σ H _ I h) fun v s1 ⟨x,H1,I1,r1,ty,q1⟩=>?_);obtain⟨h1,h2⟩:=zJ I1 r1 ty
 refine⟨T,id,pa,slot,hty,h1,h2,?_⟩
 have hA:=ha cpos pins s1 σ H1 _ I1 q1
 rw[hs]at hA ⊢
 refine Calls.callWith_builtin (by show(false||(backTo cpos (starEach es X.env)).any (·.1))=false;rw[hplain]<;>rfl) (Calls.evalArgs_plain ?_)
 exact thn hA fun us s2 ⟨vs,H2,I2,r2,q2⟩=>hm pins s2 σ H2 x vs v us Q I2 r1 r2 q2
end
noncomputable def MtM(X:Cx)(id:String)(r:V->List V->Hp->VK->Prop):Prop:=
 ∀(pins:List (Addr×Obj)) (s:Shared) (σ:St) (H:Hp) (x:V) (xs:List V) (v:Value) (us:List Value) (Q:VK),Inv X pins σ H s->RelV x v->Vals xs us->r x xs H Q ->
   wpAny (model X.prog X.w) X.A (call (.builtin id) (v ::us)) (EP X pins σ Q) X.xe s
theorem Vals.one:∀{x:V} {us:List Value},Vals [x] us->∃ u,us=[u] /\ RelV x u
 |_,_,.cons r .nil=>⟨_,rfl,r⟩
theorem Vals.two:∀{x y:V} {us:List Value},Vals [x,y] us->∃ u v,us=[u,v] /\ RelV x u /\ RelV y v
 |_,_,_,.cons r (.cons q .nil)=>⟨_,_,rfl,r,q⟩
theorem Vals.zero:∀{us:List Value},Vals [] us->us=[]
 |_,.nil=>rfl
theorem Vals.dropLast{xs:List V}{us:List Value}(h:Vals xs us):Vals xs.dropLast us.dropLast:=by
 induction h with
 |nil=>exact .nil
 | cons r t ih=>
   cases t with
   |nil=>exact .nil
   |cons q t'=>exact .cons r ih
theorem Vals.eraseIdx:∀{xs:List V} {us:List Value} (i:Nat),Vals xs us->Vals (xs.eraseIdx i) (us.eraseIdx i)
 |_,_,_,.nil=>.nil
 |_,_,0,.cons _ t=>t
 |_,_,i+1,.cons r t=>.cons r (Vals.eraseIdx i t)
theorem vQ{α:Type}(l:List α):l.eraseIdx (l.length - 1)=l.dropLast:=by
 induction l with
 |nil=>rfl
 | cons a r ih=>
   cases r with
   |nil=>rfl
   | cons b r=>
     have e:(a ::b ::r).length - 1=((b ::r).length - 1)+1:=by
      have h1:(a ::b ::r).length=r.length+2:=rfl
      have h2:(b ::r).length=r.length+1:=rfl
      omega
     rw[e,List.eraseIdx_cons_succ,ih]
     all_goals rfl
section
variable{X:Cx}{pins:List (Addr×Obj)}{σ:St}{H:Hp}{s:Shared}{l b:Addr}{xs ys zs:List V}
theorem Inv.E6{its its':List Value}{n:Nat}{f:Array Value->Array Value}{t':Nat}(I:Inv X pins σ H s)(hH:H l=some (.lst xs))
  (e:s.heap.get? l=some { cls:=.type "list",data:=.seq its.toArray n }) (hf:f its.toArray=its'.toArray) (hv:Vals ys its') (hz:ys.length<=sizeLine):
  Inv X pins σ (upd H l (.lst ys)) { s with heap:=s.heap.update l (Obj.mapSeq f),toks:=t' }:=by
 have q:=PySem.IsL.update e f;rw[hf]at q;refine I.write (x:=l) (e:=l) (by rw[hH];exact trivial) (.inl rfl) (fun b' u hb hu=>(Heap.get?_update_other s.heap (Obj.mapSeq f) (Ne.symm hb)).trans hu) ⟨_,q⟩ ?_
 exact⟨hz,its',_,hv,q⟩
theorem Inv.Dk{its:List Value}{t':Nat}(I:Inv X pins σ H s)(hv:Vals ys its)(hz:ys.length<=sizeLine):
  Inv X pins σ (upd H s.heap.objs.size (.lst ys)) { s with heap:=s.heap.push { cls:=.type "list",data:=.seq its.toArray },toks:=t' }:=
 I.laid (fun _ _ q=>Heap.get?_push_of_some _ q) (Nat.le_refl _) ⟨hz,its,0,hv,Heap.get?_push_size _ rfl⟩
theorem Inv.fresh(I:Inv X pins σ H s):H s.heap.objs.size=none:=I.hok.fresh (Nat.le_refl _)
theorem Inv.E0(I:Inv X pins σ H s)(hH:H l=some (.lst xs)):xs.length<=sizeLine /\ ∃(its:List Value) (n:Nat),Vals xs its /\ xs.length=its.length /\ s.heap.get? l=some { cls:=.type "list",data:=.seq its.toArray n }:=by
 obtain⟨z,its,n,r,e⟩:=I.hok l _ hH
 exact⟨z,its,n,r,r.length,e⟩
end
section
variable{X:Cx}
noncomputable def tL:V->List V->Hp->VK->Prop:=fun x vs H Q=>∃ l xs y,x=.ref l /\ vs=[y] /\ H l=some (.lst xs) /\ xs.length<sizeLine /\ Q .non (upd H l (.lst (xs++[y])))
theorem fS:MtM X "list.append" tL:=by
 intro pins s σ H x vs v us Q I rx rv h;obtain⟨l,xs,y,rfl,rfl,hH,hz,q⟩:=h;cases rx;obtain⟨u,rfl,ru⟩:=rv.one;obtain⟨z,its,n,r,hl,e⟩:=I.E0 hH;refine call_meets F.slot_list_append ⟨_,e,rfl⟩ F.entry_list_append (F.args_list_append_2 _ _) (PySem.list_append l its.toArray n u (by rw[List.size_toArray];omega)) ⟨e,?_⟩
 refine⟨.non,_,I.E6 (its':=its++[u]) hH e (by simp) (r.append (.cons ru .nil)) ?_,rfl,q⟩
 rw[List.length_append,List.length_singleton];omega
noncomputable def EH:V->List V->Hp->VK->Prop:=fun x vs H Q=>∃ l xs y,x=.ref l /\ vs=[] /\ H l=some (.lst xs) /\ xs[xs.length - 1]?=some y /\ Q y (upd H l (.lst xs.dropLast))
theorem DI:MtM X "list.pop" EH:=by
 intro pins s σ H x vs v us Q I rx rv h;obtain⟨l,xs,y,rfl,rfl,hH,hy,q⟩:=h;cases rx;have hus:=rv.zero;subst hus;obtain⟨z,its,n,r,hl,e⟩:=I.E0 hH;obtain⟨u,hu,ru⟩:=r.get hy
 have hy':its.toArray[its.toArray.size - 1]?=some u:=by
  show its.toArray[its.length - 1]?=some u;rw[<- Array.getElem?_toList,<- hl];exact hu
 refine call_meets F.slot_list_pop ⟨_,e,rfl⟩ F.entry_list_pop (F.args_list_pop_1 _) (MeetsSeq.list_pop_last l its.toArray n u hy' (by rw[List.size_toArray];omega)) ⟨e,?_⟩
 refine⟨y,_,I.E6 (its':=its.dropLast) hH e ?_ r.dropLast ?_,ru,q⟩
 . show its.toArray.eraseIdxIfInBounds (its.toArray.size - 1)=its.dropLast.toArray;rw[List.size_toArray,List.eraseIdxIfInBounds_toArray,vQ]
 . rw[List.length_dropLast];omega
end
section
variable{prog:Program}{w:World}{A:Around}{E:Value->Shared->Prop}{s:Shared}
set_option maxRecDepth 100000 in
end
end L2
namespace Att
open PySem PySem.W PySem.Calls PyProof.Rows
theorem pY{P:Params}{h:Heap}:∀(ns:List Int) (vs:List Value),WellAll P h vs (ns.map WData.int)->IntsAre vs ns:=by
 intro ns
 induction ns with
 | nil=>
   intro vs w;rw[List.map_nil]at w;cases w;exact .nil
 | cons n ns ih=>
   intro vs w;rw[List.map_cons]at w
   cases w with
   | cons a b=>
     cases a;exact .cons _ _ (ih _ b)
theorem yn{l:OpenLaw}{n:Nat}(hn:l.most=some n){P:Params}{h:Heap}{args:List WData}{vals:List Value}
  (hpre:l.row.toRowW.claim.pre args=true) (hwl:WellAll P h vals args):
  ∃ a vs ns,vals=[Value.ref a] /\ args=[WData.list (ns.map WData.int)] /\ h.get? a=some { cls:=.type "list",data:=.seq vs.toArray } /\ IntsAre vs ns /\ ns.length<=n:=by
 have hsh:WShape.hasAll [] args [.list .int]=true:=(pre_splitW hpre).1
 have hc:l.pre.holds [] { args:=args }=true:=(pre_splitW hpre).2
 obtain⟨d,r,rfl,h1,h2⟩:=hasAllW_cons hsh
 obtain rfl:=hasAllW_nil h2
 obtain⟨xs,rfl,h3⟩:=hasW_list h1;obtain⟨ns,rfl⟩:=items_int h3
 have hlen:ns.length<=n:=by
  unfold OpenLaw.pre at hc
  have h4:(WTm.not (.lt (.lit (.int (n:Int))) (.len (.arg 0)))).holds [] { args:=[.list (ns.map .int)] }=true:=by
   have h4:=(holds_andW hc).1;rw[hn]at h4;exact h4
  have h5:=condW_of h4 (w_not (w_lt w_lit (w_len_list (w_arg rfl))));rw[List.length_map]at h5
  refine Nat.le_of_not_lt fun q=>?_
  have q':(n:Int)<((ns.length:Nat):Int):=by omega
  first
   |(rw[decide_eq_true q']at h5;exact absurd h5 (by decide))
   |(simp at h5;omega)
 cases hwl with
 | cons w1 w2=>
   cases w2
   cases w1 with
   |list ho hall=>exact⟨_,_,ns,rfl,rfl,ho,pY ns _ hall,hlen⟩
theorem ym(l:OpenLaw)(args:List WData):l.row.toRowW.claim.post args (.bool true) args=true:=
 postW_of (r:=l.row.toRowW) (X:=(true==true))
  (show WShape.has [] (.bool true) .bool=true by first|rfl|decide|simp[WShape.has,WShape.arms,WShape.armsAll])
  (show(WTm.eq .res (.lit (.bool true))).value [] { args:=args,res:=some (.bool true),after:=args }=some (.bool (true==true)) from w_eq_bool (w_res rfl) w_lit) rfl
theorem u4{l:OpenLaw}{n:Nat}{q:Program}{loose:List Str}{XP:(Str->Option Value)->Heap->Prop}{YP:World->Heap->Prop}{d:DefRec}
  (hn:l.most=some n) (hdf:d.params.defaults=[])
  (call:∀(w:World) (s₀ s₁:Shared) (mg mb:Str->Option Value) (fa:Addr) (o:Obj) (pm cd doc:Value) (a:Addr) (vs:List Value) (ns:List Int),
    Ground q loose [] XP w s₀ mg mb s₁.heap->YP w s₁.heap ->
    s₁.heap.get? fa=some o->o.data=.func (docDef d.name d.params d.body d.scope pm cd doc)->s₁.heap.CodeRec cd d.name->mg d.name=some (.ref fa) ->
    s₁.heap.get? a=some { cls:=.type "list",data:=.seq vs.toArray }->IntsAre vs ns->ns.length<=n->s₁.gens=#[] ->
    codeAny (model l.prog w) callerA (.call (.ref fa) ⟨[.ref a],[]⟩) (fun r s'=>r=.ok (.ret (.bool true)) /\ OldK s₁.heap s'.heap /\ s'.os=s₁.os /\ AllBare s'.gens) s₁):
  WalkO q loose XP YP l.row.toRowW d [] (fun f vs=>PySem.call f vs):=by
 intro w s₀ s₁ mg mb G Y fa o pm cd doc dV kV ho hd hcd hD hmg hg args vals as hpre hlay hrd hwl hlo
 obtain rfl:dV=.none:=Dflts.none hD hdf
 obtain rfl:kV=.none:=Dflts.noKw hD
 obtain⟨a,vs,ns,rfl,rfl,hobj,hints,hlen⟩:=yn hn hpre hwl;refine enter_call (codeAny_mono (call w s₀ s₁ mg mb fa o pm cd doc a vs ns G Y ho (fd_plain hd) hcd hmg hobj hints hlen hg) fun r s' hq=>?_);obtain⟨rfl,h2,h3,h4⟩:=hq
 exact⟨.inl ⟨.bool true,.bool true,[],rfl,fun _=>rfl,.bool true,ym l _,fun _=>⟨List.Pairwise.nil,fun _ hm=>(nomatch hm)⟩⟩,h2,h3,h4⟩
end Att
namespace L2
open PySem PySem.Spec PyProof.Rows
theorem rP:∀{vs:List Value} {ns:List Int},IntsAre vs ns->Vals (ns.map V.int) vs
 |_,_,.nil=>.nil
 |_,_,.cons n t h=>.cons ⟨t,rfl⟩ (rP h)
noncomputable def Eu(H:Hp):Prop:=∀ b,H b=none \/ ∃ o xs,H b=some (.frz o (.lst xs))
theorem zt{P:Program}{w:World}{K:PySem.W.Frag}{mg mb:Str->Option Value}{CX:CXT}{k:Nat}{fa a:Addr}{fd:FuncData}{x:Str}{sp:Sp}{s₁:Shared}{vs:List Value}{ns:List Int}
  (KX:K.In s₁.heap) (hns:s₁.heap.Ns mainGlobals mg) (hb:s₁.heap.Ns builtinsNs mb) (hbb:∀ x:Str,x ≠ "__name__" -> mb x=bootBuiltins x) (hlim:s₁.heap.NoLimit) (hg:s₁.gens=#[])
  (ha:s₁.heap.get? a=some { cls:=.type "list",data:=.seq vs.toArray }) (hi:IntsAre vs ns) (hl:ns.length<=sizeLine) (hr:ip k callerA)
  (F:∀ base:Heap,K.In base->base.Ns mainGlobals mg->cn P w K mg base CX k fa fd [x] sp) (hbind:∀(s:Shared) (u:Value),BindsTo s fd ⟨[u],[]⟩ [(x,u)])
  (hsp:∀ H:Hp,Eu H->SqL K H a (ns.map V.int)->sp [.ref a] H (fun v _=>v=.bl true) fun _ _ _=>False)
  (hCX:∀ H e s',CX [] H s₁ (fun _ _ _=>False) e s'->False):
  codeAny (model P w) callerA (.call (.ref fa) ⟨[.ref a],[]⟩) (fun r s'=>r=.ok (.ret (.bool true)) /\ OldK s₁.heap s'.heap /\ s'.os=s₁.os /\ AllBare s'.gens) s₁:=by
 have rv:=rP hi;have lenV:=hi.length
 have core:∀ H:Hp,Eu H->SqL K H a (ns.map V.int)->HOk P w H s₁.heap->(∀ b,H b≠none->b=a)->(H a≠none->K.lookup a=none) ->
   codeAny (model P w) callerA (.call (.ref fa) ⟨[.ref a],[]⟩) (fun r s'=>r=.ok (.ret (.bool true)) /\ OldK s₁.heap s'.heap /\ s'.os=s₁.os /\ AllBare s'.gens) s₁:=by
  intro H hO hS hok hA hK
  have base_of:∀{b:Addr} {o:Obj},s₁.heap.get? b=some o->H b=none->(tY s₁.heap H).get? b=some o:=fun e n=>y2 e n
  have noA:∀{b:Addr} {o:Obj} {es:Array DictEntry} {ep:Nat},s₁.heap.get? b=some o->o.data=.dict es ep->H b=none:=fun {b o es ep} e d=>by
   cases q:H b with
   |none=>rfl
   | some u=>
     have e':b=a:=hA b (by rw[q];simp)
     subst e';rw[ha]at e;cases e
     have d':Data.seq vs.toArray _=Data.dict es ep:=d
     cases d'
  have nsK:∀{b:Addr} {m:Str->Option Value},s₁.heap.Ns b m->(tY s₁.heap H).Ns b m:=fun {b m} ⟨o,es,ep,e,d,r⟩=>⟨o,es,ep,base_of e (noA e d),d,r⟩
  have hKb:K.In (tY s₁.heap H):=fun b o e=>base_of (KX b o e) (by
   cases q:H b with
   |none=>rfl
   | some u=>
     have e':b=a:=hA b (by rw[q];simp)
     subst e'
     rw[hK (by rw[q];simp)]at e;cases e)
  have hM:Mod K mg (tY s₁.heap H):=⟨hKb,nsK hns,⟨mb,nsK hb,hbb⟩,let ⟨mc,h1,h2⟩:=hlim;⟨mc,nsK h1,h2⟩⟩
  have e0:Ak P w K mg (tY s₁.heap H) callerA [] s₁ H:=⟨rfl,hM,fun b o e=>A3 e,Nat.le_of_eq (xw _ _),trivial,fun b hb=>absurd (show b∈([]:List Addr) from hb) (by simp),hok,.of_eq hg⟩
  refine codeAny_mono ((F _ hKb (nsK hns)).run callerA [] s₁ H ⟨[.ref a],[]⟩ [.ref a] [.ref a] _ _ hr e0 (hbind s₁ (.ref a)) (.cons rfl .nil) (hsp H hO hS)) fun r s' h=>?_
  cases r with
  |error e=>exact(hCX H e s' h).elim
  | ok fl=>
    cases fl with
    |next=>exact False.elim h
    |brk=>exact False.elim h
    |cont=>exact False.elim h
    | ret u=>
      obtain⟨v,H',os,bare,un,hok',r',q⟩:=h
      have q':v=.bl true:=q
      subst q'
      obtain rfl:u=Value.bool true:=r'
      refine⟨rfl,OldK.of_keep fun b o e=>?_,os,bare⟩
      cases q:H b with
      |none=>exact un.keep b o e q (by intro z;exact absurd (show b∈([]:List Addr) from z) (by simp)) (by simp)
      | some u=>
        rcases hO b with z|⟨ob,xs,z⟩
        . rw[q]at z;cases z
        . have z2:=un.frzs b ob _ z;obtain⟨e1,_⟩:=hok b _ z;obtain⟨e2,_⟩:=hok' b _ z2;rw[e]at e1;cases e1;exact e2
 cases hk:K.lookup a with
 | some o=>
   have e:=KX a o hk;rw[ha]at e;cases e
   refine core (fun _=>none) (fun _=>.inl rfl) (.inr ⟨_,vs.toArray,_,hk,rfl,rfl,rfl,by rw[List.size_toArray,lenV];exact hl,by simpa using rv⟩) (fun b u z=>by have z':(none:Option HO)=some u:=z;cases z') (fun b z=>absurd rfl z) fun z=>absurd rfl z
 | none=>
   refine core (fun b=>if b=a then some (.frz { cls:=.type "list",data:=.seq vs.toArray } (.lst (ns.map V.int)))else none) (fun b=>?_) (.inl (.inr ⟨{ cls:=.type "list",data:=.seq vs.toArray },if_pos rfl⟩)) (fun b u z=>?_) (fun b z=>?_) fun _=>hk
   . by_cases hb:b=a
     . exact .inr ⟨_,_,if_pos hb⟩
     . exact .inl (if_neg hb)
   . by_cases hb:b=a
     . have z':=(if_pos hb).symm.trans z
       cases z'
       subst hb
       exact⟨ha,by rw[List.length_map];exact hl,vs,_,rv,ha⟩
     . have z':=(if_neg hb).symm.trans z
       cases z'
   . by_cases hb:b=a
     . exact hb
     . exact absurd (if_neg hb) z
abbrev KOf{K:PySem.W.Frag}{h:Heap}(_:K.In h):PySem.W.Frag:=K
theorem BC{l:PySem.W.OpenLaw}{n k:Nat}{q:Program}{loose:List Str}{XP:(Str->Option Value)->Heap->Prop}{YP:World->Heap->Prop}{d:DefRec}{K:Params->PySem.W.Frag}{CX:World->CXT}{sp:World->Sp}{x:Str}
  (hn:l.most=some n) (hn2:n<=sizeLine) (hdf:d.params.defaults=[]) (hr:ip k callerA)
  (hY:∀(w:World) (h:Heap),YP w h->(K w.params).In h)
  (F:∀(w:World) (mg:Str->Option Value) (fa:Addr) (h:Heap),(K w.params).In h->h.Ns mainGlobals mg->mg d.name=some (.ref fa) ->
    ∃ fd:FuncData,(∀(s:Shared) (u:Value),BindsTo s fd ⟨[u],[]⟩ [(x,u)]) /\
      ∀ base:Heap,(K w.params).In base->base.Ns mainGlobals mg->cn l.prog w (K w.params) mg base (CX w) k fa fd [x] (sp w))
  (hsp:∀(w:World) (H:Hp) (a:Addr) (ns:List Int),ns.length<=n->Eu H->SqL (K w.params) H a (ns.map V.int)->sp w [.ref a] H (fun v _=>v=.bl true) fun _ _ _=>False)
  (hCX:∀(w:World) (H:Hp) (s:Shared) (e:Value) (s':Shared),CX w [] H s (fun _ _ _=>False) e s'->False):
  PySem.W.WalkO q loose XP YP l.row.toRowW d [] (fun f vs=>PySem.call f vs):=by
 refine Att.u4 hn hdf fun w s₀ s₁ mg mb fa o pm cd doc a vs ns G Y ho hd hcd hmg hobj hints hlen hg=>?_
 have KX:=hY w _ Y;obtain⟨fd,hb,hF⟩:=F w mg fa _ KX G.T.g hmg
 exact zt KX G.T.g G.T.b G.T.builtins G.T.nolimit hg hobj hints (Nat.le_trans hlen hn2) hr hF hb (fun H hO hS=>hsp w H a ns hlen hO hS) fun H e s'=>hCX w H s₁ e s'
noncomputable def g8(s:Stmt):Arguments:=match s with
 |.FunctionDef _ a _ _ _ _ _ _ _ _=>a
 |_=>{ posonlyargs:=[],args:=[],vararg:=none,kwonlyargs:=[],kw_defaults:=[],kwarg:=none,defaults:=[] }
noncomputable def eU(s:Stmt):List Stmt:=match s with
 |.FunctionDef _ _ b _ _ _ _ _ _ _=>b
 |_=>[]
noncomputable def aJ(s:Stmt):Scope:=match s with
 |.FunctionDef _ _ _ _ _ _ sc _ _ _=>sc
 |_=>{ kind:=.function,names:=[],isGenerator:=false,isCoroutine:=false }
structure Fun(K:PySem.W.Frag)(x qual:Str)(st:Stmt)(f:Addr)(fd:FuncData):Prop where
 ex:∃(oc:Value) (od:Option Addr) (kV doc pm:Value) (an:Option Addr) (cdv ct:Value) (osl:Array (Option Value)),
  fd=PySem.W.fnOf x qual (g8 st) (eU st) (aJ st) .none kV doc pm an cdv ct /\ K.lookup f=some ⟨oc,od,.func fd,osl⟩ /\ PySem.W.codeIn K cdv qual=true
 kp:PySem.W.keepIn K (.ref f)=true
section
variable{P:Program}{w:World}{K:PySem.W.Frag}{mg:Str->Option Value}{base:Heap}
theorem Fun.binds{x qual:Str}{st:Stmt}{f:Addr}{fd:FuncData}{ps:List Str}(F:Fun K x qual st f fd)
  (h:∀(kV doc pm:Value) (an:Option Addr) (cdv ct:Value) (us:List Value),us.length=ps.length->bindArgs (PySem.W.fnOf x qual (g8 st) (eU st) (aJ st) .none kV doc pm an cdv ct) ⟨us,[]⟩=pure (ps.zip us)):Binds K fd ps []:=by
 obtain⟨oc,od,kV,doc,pm,an,cdv,ct,osl,rfl,lk,hcd⟩:=F.ex;exact .all (h kV doc pm an cdv ct)
theorem Dz{x qual:Str}{st:Stmt}{f:Addr}{oc:Value}{od an:Option Addr}{osl:Array (Option Value)}{kV doc pm cdv ct:Value}(l:K.lookup f=some ⟨oc,od,.func (PySem.W.fnOf x qual (g8 st) (eU st) (aJ st) .none kV doc pm an cdv ct),osl⟩)
  (c:PySem.W.codeIn K cdv qual=true) (k:PySem.W.keepIn K (.ref f)=true):Fun K x qual st f (PySem.W.fnOf x qual (g8 st) (eU st) (aJ st) .none kV doc pm an cdv ct):=⟨⟨oc,od,kV,doc,pm,an,cdv,ct,osl,rfl,l,c⟩,k⟩
end
theorem yG{A:Around}{k:Nat}(hr:ip k A):A.units+1<cLine:=Nat.lt_of_le_of_lt (Nat.add_le_add_left (by decide:1<=64) _) hr.units
section
variable{X:Cx}
theorem pv(i:Nat){x:Str}{pos:Pos}(hN:X.N[i]?=some x:=by rfl)(hv:Vis X.env.scope x:=by first|exact Or.inl rfl|exact Or.inr (Or.inl rfl)|exact Or.inr (Or.inr rfl))(hd:(x==("__debug__":Str))=false:=by decide)
  (hcd:(x==("__classdict__":Str))=false:=by decide):PE X (.Name x pos) (vd i):=Em hN hv hd hcd
end
theorem uC{A B:Prop}(h:B):if false=true then A else B:=by
 rw[if_neg Bool.false_ne_true];exact h
theorem uB{A B:Prop}(h:A):if true=true then A else B:=by
 rw[if_pos rfl];exact h
noncomputable def aD(H H':Hp):Prop:=∀ b o,H b=some o->H' b=some o
theorem aD.refl(H:Hp):aD H H:=fun _ _ h=>h
theorem aD.trans{H H1 H2:Hp}(a:aD H H1)(b:aD H1 H2):aD H H2:=fun c o h=>b c o (a c o h)
theorem aD.free{H H':Hp}(e:aD H H'){l:Addr}(h:H' l=Option.none):H l=Option.none:=by
 cases q:H l with
 |none=>rfl
 | some o=>
   rw[e l o q]at h;cases h
theorem aD.seq{K:PySem.W.Frag}{H H':Hp}{a:Addr}{xs:List V}(e:aD H H')(h:SqL K H a xs):SqL K H' a xs:=by
 rcases h with(h|⟨o,h⟩)|h
 . exact .inl (.inl (e _ _ h))
 . exact .inl (.inr ⟨o,e _ _ h⟩)
 . exact .inr h
section
variable{κ:Type}[DecidableEq κ]
theorem bG.getD{o:Option V}{u:Option Value}{d:V}{d':Value}(r:bG o u)(rd:RelV d d'):RelV (o.getD d) (u.getD d'):=by
 cases o with
 | none=>cases u with
   |none=>exact rd
   |some _=>exact(show False from r).elim
 | some _=>cases u with
   |none=>exact(show False from r).elim
   |some _=>exact r
end
theorem Fm{P:Program}{w:World}{k:Key}{u:Value}(r:RelV (kV k) u):(fT P w).is k u=true:=by
 cases k with
 |inl i=>obtain⟨t,e⟩:=(show ∃ t,u=Value.int i t from r);subst e;exact uf P w i t
 |inr x=>obtain⟨t,e⟩:=(show ∃ t,u=Value.str x t from r);subst e;exact ux P w x t
theorem sx{P:Program}{w:World}:∀{ks:List Key} {us:List Value},Vals (ks.map kV) us->ItemsAre (fT P w) ks us
 |[],_,r=>by rw[List.map_nil]at r;cases r;exact .nil
 | k ::ks,_,r=>by
   rw[List.map_cons]at r
   cases r with
   |cons h t=>exact .cons (Fm h) (sx t)
section
variable{X:Cx}{pins:List (Addr×Obj)}{σ:St}{H:Hp}{s:Shared}{a:Addr}{y v:V}{u r:Value}{o:Option V}{A:Around}{E:Value->Shared->Prop}
theorem Inv.big(I:Inv X pins σ H s):sysModules<s.heap.objs.size:=by
 have h:mainGlobals<s.heap.objs.size:=(I.mod.glob.keeps I.bk).lt
 exact Nat.lt_trans (by decide) h
theorem xn{h':Heap}{t':Nat}{ob:HO}(I:Inv X pins σ H s)(mu:Mut (H a))(hs:Heap.SameBut a s.heap h')(he:∃ q,h'.get? a=some q)(new:fP X.prog X.w (upd H a ob) h' a ob):
  Inv X pins σ (upd H a ob) { s with heap:=h',toks:=t' }:=
 I.write (x:=a) (e:=a) mu (.inl rfl) (fun b q hb z=>(hs.2 b hb).trans z) he new
end
end L2
set_option maxHeartbeats 4000000
namespace L2.E
open PySem PySem.Spec PyProof.Rows
noncomputable def Es(a C:Addr)(dx:Option Addr)(h:Heap):Prop:=∃ o vs,h.get? a=some o /\ o.cls=.ref C /\ o.dict=dx /\ o.data=.fields vs /\ vs.size=6
noncomputable def TbO(T:Addr)(h:Heap):Prop:=∃ o ts,h.get? T=some o /\ o.data=.fields ts /\ 3<ts.size
noncomputable abbrev wc(a C:Addr)(dx:Option Addr):HO:=.ext (Es a C dx)
noncomputable abbrev oTb(T:Addr):HO:=.ext (TbO T)
theorem Dv(x:Es a C dx h):fP P w H h a (wc a C dx):=by
 refine⟨x,let ⟨o,_,e,_⟩:=x;⟨o,e⟩,fun h1 h2 p k=>?_⟩
 obtain⟨o,vs,e,r⟩:=p
 exact⟨o,vs,k o e,r⟩
theorem Cj(x:TbO T h):fP P w H h T (oTb T):=by
 refine⟨x,let ⟨o,_,e,_⟩:=x;⟨o,e⟩,fun h1 h2 p k=>?_⟩
 obtain⟨o,vs,e,r⟩:=p
 exact⟨o,vs,k o e,r⟩
theorem yT(h:H a=some o):upd H a o=H:=by
 funext b
 unfold upd;split
 . rename_i e;rw[e,h]
 . rfl
structure Fly(H:Hp)(h:Heap)(a C:Addr)(dx:Option Addr):Prop where
 exc:H a=some (wc a C dx)
 tb:∃ o vs,h.get? a=some o /\ o.data=.fields vs /\ (vs[1]?=some Value.none \/ ∃ T,vs[1]?=some (.ref T) /\ H T=some (oTb T) /\ T≠a)
structure xU(H:Hp)(h:Heap)(a C:Addr)(dx:Option Addr):Prop where
 exc:H a=some (wc a C dx)
 tb:∃ o vs T,h.get? a=some o /\ o.data=.fields vs /\ vs[1]?=some (.ref T) /\ H T=some (oTb T) /\ T≠a
theorem xU.fly(F:xU H h a C dx):Fly H h a C dx:=
 let ⟨o,vs,T,e1,e2,e3,e4,e5⟩:=F.tb
 ⟨F.exc,o,vs,e1,e2,.inr ⟨T,e3,e4,e5⟩⟩
section
variable{X:Cx}{pins:List (Addr×Obj)}{σ:St}{H:Hp}{s:Shared}{a C:Addr}{dx:Option Addr}
theorem zA(I:Inv X pins σ H s)(k:Heap.SlotsOnly (frs X.stack) s.heap h₁):Un (frs X.stack) [] H H s.heap h₁ where
 keep:=fun b o e _ hb _=>(k.2.1 b hb).trans e
 slot:=fun b o e _ _ _=>k.2.2 b o e
 free:=fun _ _ _ n _=>n
 there:=fun b o e _=>let ⟨_,q⟩:=k.2.2 b o e;⟨_,q⟩
 tups:=fun _ _ q=>q
 frzs:=fun _ _ _ q=>q
 tbls:=fun _ ps q=>⟨#[],by rw[q];simp⟩
theorem ya(I:Inv X pins σ H s)(k:Heap.SlotsOnly (frs X.stack) s.heap h₁):HOk X.prog X.w H h₁:=fun b o e=>by
 have nf:∀ c u,H c=some u->c∉frs X.stack:=fun c u q z=>by rw[I.tp c z]at q;cases q
 refine(I.hok b o e).m3 (fun c v hc q=>(k.2.1 c ?_).trans q) (fun _ q=>q) fun _ _ q=>q
 rcases hc with z|z
 . rw[z];exact nf b o e
 . exact nf c _ z
theorem A7(I:Inv X pins σ H s)(e:H a=some (wc a C dx)):
  Inv X pins σ H { s with heap:=s.heap.update a (Obj.mapFields (·.setIfInBounds i v)) }:=by
 obtain⟨⟨o,vs,ho,hc,hd,hf,hz⟩,_,_⟩:=I.hok a _ e;have hs:=Heap.get?_update_self (Obj.mapFields (·.setIfInBounds i v)) ho (Obj.isFreed_of_fields (Obj.data_mapFields hf _))
 have q:=I.write (x:=a) (e:=a) (o:=wc a C dx) (t':=s.toks) (h':=s.heap.update a (Obj.mapFields (·.setIfInBounds i v))) (by rw[e];trivial) (.inl rfl)
  (fun b u hb q=>(Heap.get?_update_other _ _ (Ne.symm hb)).trans q) ⟨_,hs⟩ (Dv ⟨_,_,hs,by rw[Obj.cls_mapFields];exact hc,by obtain⟨c,d,dt,sl⟩:=o;cases dt<;>exact hd,Obj.data_mapFields hf _,by simpa using hz⟩)
 rw[yT e]at q;exact q
theorem yt(I:Inv X pins σ H s)(e:H T=some (oTb T)):
  Inv X pins σ H { s with heap:=s.heap.update T (Obj.mapFields (·.setIfInBounds i v)) }:=by
 obtain⟨⟨o,vs,ho,hf,hz⟩,_,_⟩:=I.hok T _ e;have hs:=Heap.get?_update_self (Obj.mapFields (·.setIfInBounds i v)) ho (Obj.isFreed_of_fields (Obj.data_mapFields hf _))
 have q:=I.write (x:=T) (e:=T) (o:=oTb T) (t':=s.toks) (h':=s.heap.update T (Obj.mapFields (·.setIfInBounds i v))) (by rw[e];trivial) (.inl rfl)
  (fun b u hb q=>(Heap.get?_update_other _ _ (Ne.symm hb)).trans q) ⟨_,hs⟩ (Cj ⟨_,_,hs,Obj.data_mapFields hf _,by simpa using hz⟩)
 rw[yT e]at q;exact q
theorem uh{Q:Unit->Shared->Prop}{E:Value->Shared->Prop}(I:Inv X pins σ H s)(hst:X.stack=X.env ::X.outer)(hf:X.env.frame=some L)(e:H a=some (wc a C dx))
  (h:∀ s' H',Inv X pins σ H' s'->aD H H'->xU H' s'.heap a C dx->Q () s'):
  wpAny (model X.prog X.w) X.A (do let fr <- frameOf X.env;let pl <- entryPlaceOf L had;let b <- EntryCells.newEntry head fr .none (rawInt L) .none pl;setField (.ref a) 1 b) Q E s:=by
 have hfr:X.A.frames=some (X.env ::X.outer):=by rw[<- hst];exact I.ok.frames
 have hl:s.heap.FunFrames X.base (X.env ::X.outer):=by rw[<- hst];exact I.stack
 refine wpAny_bind (wpAny_frameOf_fun hfr hl hf fun h₁ k₁=>?_)
 have k₁':Heap.SlotsOnly (frs X.stack) s.heap h₁:=by rw[hst];exact k₁
 have I₁:=I.call (g':=s.gens) (t':=s.toks) (d':=s.drawn) (ch:=[]) (zA I k₁') (ya I k₁') I.bare (fun b z=>absurd z (by simp));refine wpAny_bind (wpAny_entryPlaceOf fun pl hpl=>?_);unfold EntryCells.newEntry newFields;refine wpAny_bind (wpAny_newObj_type ?_ (hpl.sizeOk5 _ _ _ _ _))
 have big:3<([head,.ref L,.none,rawInt L,.none]++(if pl.isEmpty then List.replicate 6 Value.none else pl)).toArray.size:=by
  rw[List.size_toArray,List.length_append];show 3<5+_;omega
 have new:=Heap.get?_push_size h₁ (o:={ cls:=.type "traceback",dict:=none,data:=.fields ([head,.ref L,.none,rawInt L,.none]++(if pl.isEmpty then List.replicate 6 Value.none else pl)).toArray }) rfl
 have fr:H h₁.objs.size=none:=I₁.hok.fresh (Nat.le_refl _)
 have ne:h₁.objs.size≠a:=fun z=>by rw[z,e]at fr;cases fr
 have I₂:=I₁.laid (a:=h₁.objs.size) (o:=oTb h₁.objs.size) (t':=s.toks) (fun b u q=>Heap.get?_push_of_some _ q) (Nat.le_refl _) (Cj ⟨_,_,new,rfl,big⟩)
 have g:aD H (upd H h₁.objs.size (oTb h₁.objs.size)):=fun b u q=>by rw[bY (ig q fr)];exact q
 obtain⟨⟨o,vs,ho,hc,hd,hv,hz⟩,_,_⟩:=I₂.hok a _ (g _ _ e);refine wpAny_setField ho hv (by omega) ?_;refine h _ _ (A7 I₂ (g _ _ e)) g ⟨g _ _ e,_,_,h₁.objs.size,Heap.get?_update_self _ ho (Obj.isFreed_of_fields (Obj.data_mapFields hv _)),Obj.data_mapFields hv _,by simp[hz],bE,ne⟩
theorem BM{Q:Unit->Shared->Prop}{E:Value->Shared->Prop}(I:Inv X pins σ H s)(hst:X.stack=X.env ::X.outer /\ X.env.frame=some X.env.locals)(F:Fly H s.heap a C dx)
  (h:∀ s' H',Inv X pins σ H' s'->aD H H'->xU H' s'.heap a C dx->Q () s'):wpAny (model X.prog X.w) X.A (noteFrame (.ref a) X.env) Q E s:=by
 obtain⟨o,vs,ho,hv,hw⟩:=F.tb;unfold noteFrame;simp only[hst.2]
 rcases hw with h1|⟨T,h1,hT,ne⟩
 . refine wpAny_bind (wpAny_field ho hv h1 ?_);rw[if_neg (by decide)];exact uh I hst.1 hst.2 F.exc h
 . obtain⟨⟨oT,ts,hoT,hdT,hz⟩,_,_⟩:=I.hok T _ hT;refine wpAny_bind (wpAny_field ho hv h1 ?_);rw[if_pos (show(Value.ref T != Value.none)=true from by simp)]
   have h3:ts[3]?=some ts[3]:=by simp[hz]
   refine wpAny_bind (wpAny_field hoT hdT h3 ?_)
   by_cases c:(ts[3]==rawInt X.env.locals)=true
   . rw[if_pos c];exact wpAny_pure (h s H I (aD.refl H) ⟨F.exc,o,vs,T,ho,hv,h1,hT,ne⟩)
   . rw[if_neg c];refine wpAny_bind (wpAny_setField hoT hdT hz ?_);exact uh (yt I hT) hst.1 hst.2 F.exc h
theorem xH{Q:Unit->Shared->Prop}{E:Value->Shared->Prop}(I:Inv X pins σ H s)(F:xU H s.heap a C dx)
  (h:∀ s',Inv X pins σ H s'->xU H s'.heap a C dx->Q () s'):wpAny (model X.prog X.w) X.A (setFlight (.ref a) x) Q E s:=by
 obtain⟨o,vs,T,ho,hv,h1,hT,ne⟩:=F.tb;unfold setFlight;obtain⟨⟨oT,ts,hoT,hdT,hz⟩,_,_⟩:=I.hok T _ hT;refine wpAny_bind (wpAny_field ho hv h1 ?_);rw[if_pos (show(Value.ref T != Value.none)=true from by simp)];refine wpAny_setField hoT hdT hz ?_;exact h _ (yt I hT) ⟨F.exc,o,vs,T,(Heap.get?_update_other _ _ ne).trans ho,hv,h1,hT,ne⟩
end
noncomputable def CXE(P:Program)(w:World):CXT:=fun outer H s E e s'=>∃ a C dx H',e=.ref a /\ s'.os=s.os /\ AllBare s'.gens /\ Un (frs outer) [] H H' s.heap s'.heap /\ HOk P w H' s'.heap /\ Fly H' s'.heap a C dx /\ E (.ref C) (some a) H'
abbrev XW:=Value->Option Addr->St->Hp->Prop
noncomputable def Thr(X:Cx)(W:XW):Prop:=∀(pins:List (Addr×Obj)) (σ:St) (H:Hp) (s:Shared) (a C:Addr) (dx:Option Addr),Inv X pins σ H s->Fly H s.heap a C dx->W (.ref C) (some a) σ H->X.xe (.ref a) s
section
variable{CX:CXT}{P:Program}{w:World}{K:PySem.W.Frag}{mg:Str->Option Value}{base:Heap}{N:List Str}{qual:Str}{scope:Scope}{f:Addr}{cd:Value}{A:Around}{outer:List Env}{s₀:Shared}{H₀:Hp}{E:XK}
theorem aC:Thr (n8 (CXE P w) P w K mg base N qual scope f cd A outer s₀ H₀ E) (fun C a _ H=>∀ H',aD H H'->E C a H'):=by
 intro pins σ H s a C dx I F hw;show wpAny _ _ (leaving _ _) _ _ s;unfold leaving;refine wpAny_bind (BM I ⟨rfl,rfl⟩ F fun s1 H1 I1 g1 F1=>?_)
 refine xH I1 F1 fun s2 I2 F2=>?_
 exact⟨a,C,dx,H1,rfl,I2.os,I2.bare,I2.base,I2.hok,F2.fly,hw H1 g1⟩
theorem fi:PassesOwn (model P w) (n8 (CXE P w) P w K mg base N qual scope f cd A outer s₀ H₀ E).A (n8 (CXE P w) P w K mg base N qual scope f cd A outer s₀ H₀ E).env (n8 (CXE P w) P w K mg base N qual scope f cd A outer s₀ H₀ E).xe:=by
 show PassesOwn (model P w) (A.deeper (envOfC qual scope s₀.heap.objs.size f cd)) (envOfC qual scope s₀.heap.objs.size f cd) (fun e s'=>wpAny (model P w) (A.deeper (envOfC qual scope s₀.heap.objs.size f cd)) (leaving (envOfC qual scope s₀.heap.objs.size f cd) e) (fun _ s''=>CXE P w outer H₀ s₀ E e s'') (fun e' s''=>CXE P w outer H₀ s₀ E e' s'') s')
 passes_own
end
section
variable{X:Cx}{k:Nat}{f:Addr}{fd:FuncData}{ps:List Str}{sp:Sp}{dvs:List V}{ds:List Value}{W:XW}{x m:Str}{p pos apos:Pos}{e o:Expr}{es:List Expr}{ta:TE}{t:TA}
noncomputable def ph(sp:Sp)(dvs:List V)(W:XW)(t:TA):TE:=fun σ H Q=>t σ H fun vs H1=>sp (vs++dvs) H1 Q fun C a H'=>W C a σ H'
theorem BE{pins:List (Addr×Obj)}(F:cn X.prog X.w X.K X.mg X.base (CXE X.prog X.w) k f fd ps sp)(hr:ip k X.A)(hb:Binds X.K fd ps ds)(hd:Vals dvs ds)(hx:Thr X W)
  (I:Inv X pins σ H s) (r:Vals vs us) (h:sp (vs++dvs) H Q fun C a H'=>W C a σ H'):wpAny (model X.prog X.w) X.A (call (.ref f) us) (EP X pins σ Q) X.xe s:=by
 have r2:Vals (vs++dvs) (us++ds):=r.append hd
 have hl:(us++ds).length=ps.length:=by rw[<- r2.length];exact F.len _ _ _ _ h
 refine wpAny_call (codeAny_mono (F.run X.A X.stack s H ⟨us,[]⟩ (us++ds) (vs++dvs) Q _ hr I.GY (hb s us I.kIn hl) r2 h) fun r s' hq=>?_)
 cases r with
 | error e=>
   obtain⟨a,C,dx,H',rfl,ho,bare,un,hok,fl,hw⟩:=hq;exact hx pins σ H' s' a C dx (I.B7 ho un hok bare fun b z=>absurd z (by simp)) fl hw
 | ok fl=>
   cases fl with
   |ret u=>exact I.after hq
   |next=>exact False.elim hq
   |brk=>exact False.elim hq
   |cont=>exact False.elim hq
theorem zi(F:cn X.prog X.w X.K X.mg X.base (CXE X.prog X.w) k f fd ps sp)(hr:ip k X.A)(hg:Gl X x)(hm:X.mg x=some (.ref f))(hk:PySem.W.keepIn X.K (.ref f)=true)(hb:Binds X.K fd ps ds)(hd:Vals dvs ds)(hx:Thr X W)
  (ha:PA X (e ::es) t) (hdb:(x==("__debug__":Str))=false:=by decide) (he:starEach (e ::es) X.env=(false,eval e X.env) ::starEach es X.env:=by rfl) (hpl:(backTo pos (starEach es X.env)).any (·.1)=false:=by rfl):
  PE X (.Call (.Name x p) (e ::es) [] pos) (ph sp dvs W t):=by
 intro pins s σ H Q I h;refine wpAny_Call_Name_kw (AS I hg hm ?_ hdb);refine PySem.W.callWith_K (h₀:=X.base) I.ok.mod.kin hk (thn (ha pos pins s σ H _ I h) fun us s1 ⟨vs,H1,I1,r,q⟩=>⟨I1.kIn,?_⟩) he hpl;exact BE F hr hb hd hx I1 r q
end
noncomputable abbrev blk(X:Cx)(scope:Scope)(cl:List (Str×Addr))(N:List Str)(C:Addr)(s₀:Shared)(H₀:Hp)(ex:List Addr):Cx:=
 { prog:=X.prog,w:=X.w,K:=X.K,mg:=X.mg,base:=X.base,A:=X.A,N:=N,s₀:=s₀,H₀:=H₀,env:=compEnvC scope cl C X.env,outer:=X.stack,stack:=X.stack,ex:=ex,fn:=fun _=>false,calm:=X.calm,pn:=[],xe:=fun _ _=>False }
theorem vX:Thr X (fun _ _ _ _=>False):=fun _ _ _ _ _ _ _ _ _ h=>h.elim
structure lK(X:Cx)(scope:Scope)(cl:List (Str×Addr))(M:List Str)(ι:List Nat)(x:Str):Prop where
 clos:closureFor scope X.env=pure cl
 kind:scope.kind=.function
 nocell:(scope.names.all fun p=>p.2 != .cell)=true
 locs:(scope.names.all fun p=>p.2 != .local||scope.names.lookup p.1==some .local)=true
 var:scope.names.lookup x=some .local
 names:M.map some=ι.map fun i=>X.N[i]?
 cells:M.map (fun y=>scope.names.lookup y)=M.map fun _=>some .free
 kinds:M.map X.env.kindOf=M.map fun _=>some .cell
 same:M.map (fun y=>cl.lookup y)=M.map fun y=>X.env.cells.lookup y
 sub:cl.map (fun p=>X.env.cells.lookup p.1)=cl.map fun p=>some p.2
 all:(scope.names.all fun p=>!(p.2 == .free)||(cl.lookup p.1).isSome)=true
 nd:(M++[x]).Nodup
theorem tN{α β:Type}{f g:α->β}{l:List α}(h:l.map f=l.map g){a:α}(ha:a∈l):f a=g a:=by
 induction l with
 |nil=>cases ha
 | cons b r ih=>
   rw[List.map_cons,List.map_cons]at h
   injection h with h1 h2
   rcases List.mem_cons.mp ha with z|z
   . rw[z];exact h1
   . exact ih h2 z
theorem tj{scope:Scope}(h:scope.names.lookup y=some .free):(relabel scope env).names.lookup y=some .cell \/ (relabel scope env).names.lookup y=some .free:=by
 unfold relabel;dsimp only;generalize scope.names=l at h
 induction l with
 |nil=>cases h
 | cons p r ih=>
   obtain⟨n,k⟩:=p;rw[List.lookup_cons]at h;rw[List.map_cons]
   by_cases e:(y==n)=true
   . rw[e]at h
     have hk:k=.free:=Option.some.inj h
     subst hk;dsimp only;split
     . rw[List.lookup_cons,e];exact .inl rfl
     . rw[List.lookup_cons,e];exact .inr rfl
   . have e':(y==n)=false:=by simpa using e
     rw[e']at h;dsimp only;split
     . rw[List.lookup_cons,e'];exact ih h
     . rw[List.lookup_cons,e'];exact ih h
theorem tU{scope:Scope}(hc:(scope.names.all fun p=>p.2 != .cell)=true)(h:(relabel scope env).names.lookup y=some .cell \/ (relabel scope env).names.lookup y=some .free):∃ p∈scope.names,p.1=y /\ p.2=.free:=by
 unfold relabel at h
 dsimp only at h
 generalize scope.names=l at h hc
 induction l with
 |nil=>rcases h with h|h<;>cases h
 | cons p r ih=>
   obtain⟨n,k⟩:=p;rw[List.all_cons,Bool.and_eq_true]at hc;rw[List.map_cons]at h
   by_cases e:(y==n)=true
   . refine⟨(n,k),List.mem_cons_self,(beq_iff_eq.mp e).symm,?_⟩
     dsimp only at h ⊢
     split at h
     . rename_i c;simp only[Bool.and_eq_true,beq_iff_eq]at c;exact c.1.1
     . rw[List.lookup_cons,e]at h
       have hk:(k != NameKind.cell)=true:=hc.1
       rcases h with h|h
       . have:k=.cell:=Option.some.inj h
         subst this;exact absurd hk (by decide)
       . exact Option.some.inj h
   . have e':(y==n)=false:=by simpa using e
     have h':(List.map (fun x=>match x with|(n,k)=>if(k==NameKind.free&&env.scope.kind==ScopeKind.function&&env.kindOf n==some NameKind.cell)=true then(n,NameKind.cell)else(n,k)) r).lookup y=some .cell \/
       (List.map (fun x=>match x with|(n,k)=>if(k==NameKind.free&&env.scope.kind==ScopeKind.function&&env.kindOf n==some NameKind.cell)=true then(n,NameKind.cell)else(n,k)) r).lookup y=some .free:=by
      dsimp only at h
      split at h
      . rw[List.lookup_cons,e']at h;exact h
      . rw[List.lookup_cons,e']at h;exact h
     obtain⟨q,hq,z⟩:=ih h' hc.2
     exact⟨q,List.mem_cons_of_mem _ hq,z⟩
noncomputable def pick(ι:List Nat)(σ:St):St:=ι.map fun i=>(σ[i]?).join
noncomputable def qG(wi:TI)(ι:List Nat)(te:TE):TE:=fun σ H Q=>wi σ H fun J H1=>∀ D,H1 D=none->∃ W:Nat->Nat->List V->Hp->Prop,(∃ m,W 0 m [] (upd H1 D (.lst []))) /\ ∀ i m ys H,W i m ys H ->
 H D=some (.lst ys) /\ ((J.stop i H /\ Q (.ref D) H) \/ (J.go i H /\ ∀ x H',J.yld i H x H'->te (pick ι σ++[some x]) H' fun y H2=>H2 D=some (.lst ys) /\ ys.length<sizeLine /\ ∃ m',m'<m /\ W (i+1) m' (ys++[y]) (upd H2 D (.lst (ys++[y])))))
section
variable{X:Cx}{scope:Scope}{cl:List (Str×Addr)}{M:List Str}{ι:List Nat}{x:Str}
theorem lK.qr(S:lK X scope cl M ι x)(h:cl.lookup y=some c):X.env.cells.lookup y=some c:=tN S.sub (PySem.mem_of_lookup h)
theorem vV{pins:List (Addr×Obj)}{s:Shared}{h₁:Heap}(S:lK X scope cl M ι x)(I:Inv X pins σ H s)(hex:∀ b∈ex,kZ X pins H b /\ b<s.heap.objs.size)(hn:h₁.Ns s.heap.objs.size (fun _=>none))
  (hk:∀ b o,s.heap.get? b=some o->h₁.get? b=some o):Inv (blk X scope cl (M++[x]) s.heap.objs.size s H ex) [] (pick ι σ++[none]) H { s with heap:=h₁,toks:=t' }:=by
 have noM:∀ b:Addr,b∈ex->b≠s.heap.objs.size:=fun b hb=>Nat.ne_of_lt (hex b hb).2
 have fsx:∀ b∈ex,b∉frs X.stack:=fun b hb z=>by
  obtain⟨⟨_,f1,f2,_⟩,_⟩:=hex b hb
  rcases List.mem_cons.mp (I.vF b z)with e|e
  . exact f1 e
  . exact f2 e
 have base0:∀ b o,X.base.get? b=some o->b∉ex:=fun b o e z=>by
  obtain⟨⟨_,_,_,f3,_⟩,_⟩:=hex b z
  rcases f3 with f|f
  . exact I.ok.noex b o e f
  . exact absurd (Nat.lt_of_lt_of_le (Heap.lt_size e) (Nat.le_trans I.ok.bsz f)) (Nat.lt_irrefl _)
 refine⟨⟨I.ok.mod,S.kind,I.ok.glob,I.ok.blt,Nat.le_refl _,fun y z c h1 h2=>I.ok.inj y z c (S.qr h1) (S.qr h2),fun y hy=>?_,fun y c z=>absurd z Bool.false_ne_true,I.ok.hd,I.ok.frames,.inl rfl,
  fun b hb=>⟨noM b hb,fun y c h z=>(hex b hb).1.2.2.2.2.1 y c (S.qr h) z⟩,I.bs,Nat.le_trans I.ok.bsz I.sz,base0,fsx,I.stack,I.tp⟩,
  rfl,I.bare,Un.kept hk,⟨_,hn,fun i y v e1 e2 e3=>?_⟩,fun y c h=>?_,I.fresh,fun y c h=>?_,fun p hp=>absurd (show p∈([]:List (Addr×Obj)) from hp) (by simp),I.hok.kept hk,?_⟩
 . obtain⟨p,hp,rfl,hpf⟩:=tU S.nocell hy;have q:=List.all_eq_true.mp S.all p hp;rw[hpf]at q
   have q':(cl.lookup p.1).isSome=true:=by
    cases e:(cl.lookup p.1).isSome with
    |true=>rfl
    |false=>rw[e]at q;exact absurd q (by decide)
   exact Option.isSome_iff_exists.mp q'
 . have hiM:i < M.length:=by
    by_cases hlt:i<M.length
    . exact hlt
    . exfalso
      have hl:(pick ι σ).length=M.length:=by
       have q:=congrArg List.length S.names;rw[List.length_map,List.length_map]at q;unfold pick;rw[List.length_map,q]
      rw[List.getElem?_append_right (by omega),hl]at e2
      have:i - M.length=0 \/ 1<=i - M.length:=by omega
      rcases this with z|z
      . rw[z]at e2;cases e2
      . rw[List.getElem?_eq_none (by simpa using z)]at e2;cases e2
   have hl:ι.length=M.length:=by
    have q:=congrArg List.length S.names;rw[List.length_map,List.length_map]at q;exact q.symm
   rw[List.getElem?_append_left hiM]at e1
   have hyM:y∈M:=List.mem_of_getElem? e1
   have e2':((σ[ι[i]]?).join)=some v:=by
    rw[List.getElem?_append_left (by unfold pick;rw[List.length_map];omega)]at e2;unfold pick at e2;rw[List.getElem?_map,List.getElem?_eq_getElem (by omega)]at e2;exact Option.some.inj e2
   have e4:σ[ι[i]]?=some (some v):=by
    cases q:σ[ι[i]]? with
    |none=>rw[q]at e2';cases e2'
    |some w=>rw[q]at e2';exact congrArg some e2'
   have e5:X.N[ι[i]]?=some y:=by
    have q:=congrArg (fun l=>l[i]?) S.names;rw[List.getElem?_map,List.getElem?_map,e1,List.getElem?_eq_getElem (by omega)]at q
    exact(Option.some.inj q).symm
   have kc:X.env.kindOf y=some .cell:=tN S.kinds hyM
   obtain⟨m,hm,hl⟩:=I.loc;obtain⟨u,r,q⟩:=hl _ y v e5 e4 (.inr (.inl kc))
   refine⟨u,r,.inr ⟨?_,?_⟩⟩
   . exact tj (tN S.cells hyM)
   . rcases q with⟨k,_⟩|⟨_,c,e,o,ho,hd⟩
     . rw[kc]at k;cases k
     . exact⟨c,(tN S.same hyM).trans e,o,hk _ _ ho,hd⟩
 . obtain⟨v,o,ho,hd⟩:=I.cell y c (S.qr h)
   exact⟨v,o,hk _ _ ho,hd⟩
 . exact I.freeC y c (S.qr h)
 . have q:=congrArg List.length S.names;rw[List.length_map,List.length_map]at q
   show(pick ι σ++[none]).length=(M++[x]).length
   unfold pick;rw[List.length_append,List.length_append,List.length_map,q];rfl
theorem sM{pins:List (Addr×Obj)}{s s':Shared}(I:Inv X pins σ H s)(hC:C=s.heap.objs.size)(hex:∀ b∈ex,kZ X pins H b)(J:Inv (blk X scope cl N C s H ex) [] σ' H' s')
  (hs:Heap.SameBut C s'.heap h'):Inv X pins σ H' { s' with heap:=h' }:=by
 subst hC
 have K:Inv X pins σ H' s':=I.B7 (ch:=ex) J.os J.base J.hok J.bare fun b hb=>by
  obtain⟨_,f1,_,f3,f4,f5⟩:=hex b hb
  exact⟨f3,f1,f4,f5⟩
 refine K.turned (t':=s'.toks) (it:=s.heap.objs.size) (fun b o hb e=>(hs.2 b hb).trans e) J.free (Nat.ne_of_gt I.lt) (.inr I.sz) (fun y c e z=>?_) (fun p hp z=>?_)
 . obtain⟨v,q⟩:=I.cell y c e;exact absurd (z ▸ q.lt) (Nat.lt_irrefl _)
 . exact absurd (z ▸ Heap.lt_size (I.pin p hp).1) (Nat.lt_irrefl _)
theorem sJ(elt target iter:Expr)(scope:Scope)(pos:Pos)(it acc:Value)(env:Env):
  compTurn (.ListComp elt [⟨target,iter,[],0⟩] scope pos) 0 it acc env=(do
   standAt iter.pos
   match <- pyNext it with
   |none=>pure (.done .next)
   | some v=>do
     letOwnedTupleGo target it v
     assign target env v
     (do let x <- eval elt env;let _ <- call (.builtin "list.append") [acc,x];pure ())
     again (.compLoop (.ListComp elt [⟨target,iter,[],0⟩] scope pos) 0 it acc env)):=by rfl
theorem Ay(S:lK X scope cl M ι x)(hc:X.calm=true)(hi:PI X (.Name x px) iter wi)(he:∀ C s₀ H₀ ex,PE (blk X scope cl (M++[x]) C s₀ H₀ ex) elt te)
  (hs:∀ v,foldedSetIterable iter X.env v=pure v:=by intro _;rfl):PE X (.ListComp elt [⟨.Name x px,iter,[],0⟩] scope pos) (qG wi ι te):=by
 intro pins s σ H Q I h;rw[eval_ListComp];refine wpAny_comprehension_free (use:=none) rfl hs S.clos S.kind (fun y hy hl=>?_) (wpAny_mono (hi pins s σ H _ I h) (fun v s1 h1=>wpAny_mono h1 (fun itv s2 h2=>?_) fun _ _ z=>z) fun _ _ z=>z)
 . have q:=List.all_eq_true.mp S.locs y hy;rw[hl]at q
   simpa using q
 obtain⟨it,fp,tn,J,H2,rfl,I2,T,st2,f2,hW⟩:=h2;have I3:=I2.Dk (ys:=[]) (its:=[]) (t':=s2.toks) .nil (Nat.zero_le _);obtain⟨W,⟨m0,w0⟩,turn⟩:=hW s2.heap.objs.size I2.fresh
 have fpo:∀ b∈fp,b<s2.heap.objs.size:=fun b hb=>let ⟨_,e,_⟩:=T.obj _ _ st2 b hb;Heap.lt_size e
 have f3:∀ b∈fp,kZ X pins (upd H2 s2.heap.objs.size (.lst [])) b:=fun b hb=>by
  obtain⟨q0,q⟩:=f2 b hb
  exact⟨by rw[bY (Nat.ne_of_lt (fpo b hb))];exact q0,q⟩
 show wpAny _ _ (newObj (.type "list") _ none) _ _ s2;refine wpAny_newObj_type (wpAny_newFunctionEnv (fun y hy=>?_) (by intro y hy;simp at hy) (fun h₁ hn₁ sb₁=>?_) S.kind)
 . have q:=List.all_eq_true.mp S.nocell y hy
   simpa using q
 have hsz:(s2.heap.push { cls:=.type "list",dict:=none,data:=.seq ([]:List Value).toArray }).objs.size=s2.heap.objs.size+1:=Heap.size_push ..
 have hk₁:∀ b o,(s2.heap.push { cls:=.type "list",dict:=none,data:=.seq ([]:List Value).toArray }).get? b=some o->h₁.get? b=some o:=fun b o e=>
  (sb₁.2 b (Nat.ne_of_lt (Heap.lt_size e))).trans (Heap.get?_push_of_some _ e)
 have J0:=vV (t':=s2.toks+([]:List (Str×Value)).length) S I3 (ex:=fp) (fun b hb=>⟨f3 b hb,Nat.lt_of_lt_of_le (fpo b hb) (by rw[hsz];exact Nat.le_succ _)⟩) hn₁ hk₁
 have old:∀ b∈fp,∀ o,s2.heap.get? b=some o->h₁.get? b=some o:=fun b _ o e=>hk₁ b o (Heap.get?_push_of_some _ e)
 have st₁:tn 0 h₁:=T.keep _ _ _ st2 old
 have loop:codeAny (model X.prog X.w) X.A (.compLoop (.ListComp elt [⟨.Name x px,iter,[],0⟩] scope pos) 0 (.ref it) (.ref s2.heap.objs.size) (compEnvC scope cl (s2.heap.objs.size+1) X.env))
   (compPost (model X.prog X.w) X.A X.xe none (EP X pins σ Q) (.ref s2.heap.objs.size) (s2.heap.objs.size+1)) { s2 with heap:=h₁,toks:=s2.toks+([]:List (Str×Value)).length }:=by
  rw[hsz]at J0
  refine codeAny_loop rfl (fun n s'=>∃ i H' ys v,Inv (blk X scope cl (M++[x]) (s2.heap.objs.size+1) { s2 with heap:=s2.heap.push { cls:=.type "list",data:=.seq ([]:List Value).toArray },toks:=s2.toks } (upd H2 s2.heap.objs.size (.lst [])) fp) [] (pick ι σ++[v]) H' s' /\ tn i s'.heap /\ (∀ b∈fp,H' b=none) /\ W i n ys H')
   (fun n s' hI=>?_) m0 ⟨0,_,[],none,J0,st₁,fun b hb=>(f3 b hb).1,w0⟩
  obtain⟨i,H',ys,v,J',st',fr',w'⟩:=hI;obtain⟨hD,alt⟩:=turn i n ys H' w'
  have fpY:∀{G:Hp},(∀ b∈fp,G b=none)->∀ b∈fp,kZ (blk X scope cl (M++[x]) (s2.heap.objs.size+1) { s2 with heap:=s2.heap.push { cls:=.type "list",data:=.seq ([]:List Value).toArray },toks:=s2.toks } (upd H2 s2.heap.objs.size (.lst [])) fp) [] G b:=fun hG b hb=>
   ⟨hG b hb,(J'.ok.exf b hb).1,J'.ok.exfs b hb,.inl hb,(J'.ok.exf b hb).2,fun p hp=>absurd (show p∈([]:List (Addr×Obj)) from hp) (by simp)⟩
  show wpAny _ _ ((compTurn _ 0 (.ref it) (.ref s2.heap.objs.size) (compEnvC scope cl (s2.heap.objs.size+1) X.env)).onRaise _) _ _ s';refine wpAny_noted (wpAny_noRaise ?_);rw[sJ];refine wpAny_bind (wpAny_standAt (wpAny_bind ?_))
  rcases alt with⟨stop,qn⟩|⟨go,step⟩
  . refine thn (T.done (blk X scope cl (M++[x]) (s2.heap.objs.size+1) _ _ fp) rfl rfl rfl hc i [] s' _ H' _ J' (fpY fr') st' stop) fun r s4 ⟨hr,J4⟩=>?_
    subst hr;refine wpAny_pure ?_;obtain⟨m,hm,_⟩:=id J4.loc
    refine⟨m,hm,fun h' sb=>⟨.ref s2.heap.objs.size,H',sM I3 hsz.symm f3 J4 sb,rfl,qn⟩⟩
  . refine thn (T.item (blk X scope cl (M++[x]) (s2.heap.objs.size+1) _ _ fp) rfl rfl rfl hc i [] s' _ H' _ J' (fpY fr') st' go) fun r s4 ⟨u,hr,h4⟩=>?_
    subst hr;refine wpAny_bind (thn h4 fun _ s5 ⟨z,H5,J5,r5,y5,st5,fr5⟩=>?_)
    have J5':=J5.pinned (fpY fr5) (T.obj _ _ st5)
    have hxN:(M++[x])[M.length]?=some x:=by simp
    refine wpAny_bind ?_;refine wpAny_assign_Name ?_;refine iO (X:=blk X scope cl (M++[x]) (s2.heap.objs.size+1) _ _ fp) (i:=M.length) (v:=z) J5' S.nd hxN (.inl (lookup_relabel_local S.var)) r5 (fun s6 J6=>?_) (.inr (lookup_relabel_local S.var))
    have hlp:(pick ι σ).length=M.length:=by
     have q:=congrArg List.length S.names;rw[List.length_map,List.length_map]at q;unfold pick;rw[List.length_map,q]
    have hset:(pick ι σ++[v]).set M.length (some z)=pick ι σ++[some z]:=by
     rw[<- hlp,List.set_append_right _ _ (Nat.le_refl _),Nat.sub_self];rfl
    rw[hset]at J6;refine wpAny_bind (wpAny_bind (thn (he _ _ _ _ _ s6 _ H5 _ J6 (step z H5 y5)) fun yv s7 ⟨y,H7,J7,r7,hD7,hz7,m',hm',w7⟩=>?_));refine wpAny_bind (thn (fS (X:=blk X scope cl (M++[x]) (s2.heap.objs.size+1) _ _ fp) _ s7 _ H7 (.ref s2.heap.objs.size) [y] (.ref s2.heap.objs.size) [yv] (fun _ G=>G=upd H7 s2.heap.objs.size (.lst (ys++[y]))) J7 rfl (.cons r7 .nil) ⟨_,_,y,rfl,rfl,hD7,hz7,rfl⟩) fun _ s8 ⟨_,H8,J8,_,e8⟩=>?_);subst e8;refine wpAny_pure (wpAny_pure ⟨rfl,m',hm',i+1,_,_,some z,J8.g5,?_,fun b hb=>?_,w7⟩)
    . exact T.keep _ _ _ st5 fun b hb o e=>(J8.pin (b,o) (List.mem_append_right _ (List.mem_append_right _ (dc hb e)))).1
    . obtain⟨o,e,d⟩:=T.obj _ _ st5 b hb
      exact(J8.pin (b,o) (List.mem_append_right _ (List.mem_append_right _ (dc hb e)))).2.1
 rw[hsz]at *;exact codeAny_compStart_list loop (T.self X.A 0 _ _ _ st₁ loop)
end
section
variable{X:Cx}
noncomputable def IsV(K:PySem.W.Frag)(T:String)(x:V)(H:Hp)(b:Bool):Prop:=match x with
 |.int _=>(T = "int" /\ b=true) \/ (T = "bool" /\ b=false) \/ (T = "list" /\ b=false) \/ (T = "tuple" /\ b=false) \/ (T = "str" /\ b=false)
 |.bl _=>(T = "int" /\ b=true) \/ (T = "bool" /\ b=true) \/ (T = "list" /\ b=false) \/ (T = "tuple" /\ b=false) \/ (T = "str" /\ b=false)
 |.non=>(T = "int" /\ b=false) \/ (T = "bool" /\ b=false) \/ (T = "list" /\ b=false) \/ (T = "tuple" /\ b=false) \/ (T = "str" /\ b=false)
 |.str _=>(T = "int" /\ b=false) \/ (T = "bool" /\ b=false) \/ (T = "list" /\ b=false) \/ (T = "tuple" /\ b=false) \/ (T = "str" /\ b=true)
 | .ref p=>((∃ xs,SqL K H p xs) /\ ((T = "int" /\ b = false) \/ (T = "bool" /\ b = false) \/ (T = "list" /\ b = true) \/ (T = "tuple" /\ b = false) \/ (T = "str" /\ b = false))) \/
    ((∃ xs,SqT K H p xs) /\ ((T = "int" /\ b=false) \/ (T = "bool" /\ b=false) \/ (T = "list" /\ b=false) \/ (T = "tuple" /\ b=true) \/ (T = "str" /\ b=false)))
 |_=>False
theorem jC:ko X (.builtin "isinstance") (fun xs H Q=>∃ x T b,xs=[x,.ty T] /\ IsV X.K T x H b /\ Q (.bl b) H):=by
 intro pins s σ H vs us Q I rv h;obtain⟨x,T,b,rfl,hv,q⟩:=h;obtain⟨u,v,rfl,ru,rT⟩:=rv.two;cases rT
 cases x with
 | int i=>
   obtain⟨t,rfl⟩:=ru
   rcases hv with⟨rfl,rfl⟩|⟨rfl,rfl⟩|⟨rfl,rfl⟩|⟨rfl,rfl⟩|⟨rfl,rfl⟩
   . exact IsiPair.int_int ⟨.bl _,H,I,rfl,q⟩
   . exact IsiPair.int_bool ⟨.bl _,H,I.tok _,rfl,q⟩
   . exact IsiPair.int_list ⟨.bl _,H,I.tok _,rfl,q⟩
   . exact IsiPair.int_tuple ⟨.bl _,H,I.tok _,rfl,q⟩
   . exact IsiPair.int_str ⟨.bl _,H,I.tok _,rfl,q⟩
 | bl i=>
   cases ru
   rcases hv with⟨rfl,rfl⟩|⟨rfl,rfl⟩|⟨rfl,rfl⟩|⟨rfl,rfl⟩|⟨rfl,rfl⟩
   . exact IsiPair.bool_int ⟨.bl _,H,I,rfl,q⟩
   . exact IsiPair.bool_bool ⟨.bl _,H,I,rfl,q⟩
   . exact IsiPair.bool_list ⟨.bl _,H,I.tok _,rfl,q⟩
   . exact IsiPair.bool_tuple ⟨.bl _,H,I.tok _,rfl,q⟩
   . exact IsiPair.bool_str ⟨.bl _,H,I.tok _,rfl,q⟩
 | non=>
   cases ru
   rcases hv with⟨rfl,rfl⟩|⟨rfl,rfl⟩|⟨rfl,rfl⟩|⟨rfl,rfl⟩|⟨rfl,rfl⟩
   . exact IsiPair.NoneType_int ⟨.bl _,H,I.tok _,rfl,q⟩
   . exact IsiPair.NoneType_bool ⟨.bl _,H,I.tok _,rfl,q⟩
   . exact IsiPair.NoneType_list ⟨.bl _,H,I.tok _,rfl,q⟩
   . exact IsiPair.NoneType_tuple ⟨.bl _,H,I.tok _,rfl,q⟩
   . exact IsiPair.NoneType_str ⟨.bl _,H,I.tok _,rfl,q⟩
 | str i=>
   obtain⟨t,rfl⟩:=ru
   rcases hv with⟨rfl,rfl⟩|⟨rfl,rfl⟩|⟨rfl,rfl⟩|⟨rfl,rfl⟩|⟨rfl,rfl⟩
   . exact IsiPair.str_int ⟨.bl _,H,I.tok _,rfl,q⟩
   . exact IsiPair.str_bool ⟨.bl _,H,I.tok _,rfl,q⟩
   . exact IsiPair.str_list ⟨.bl _,H,I.tok _,rfl,q⟩
   . exact IsiPair.str_tuple ⟨.bl _,H,I.tok _,rfl,q⟩
   . exact IsiPair.str_str ⟨.bl _,H,I,rfl,q⟩
 | ref p=>
   cases ru
   rcases hv with⟨⟨xs,hS⟩,hv⟩|⟨⟨xs,hS⟩,hv⟩
   . obtain⟨its,r,pl,hz⟩:=I.list hS;obtain⟨o,e,c,_⟩:=pl.isList
     rcases hv with⟨rfl,rfl⟩|⟨rfl,rfl⟩|⟨rfl,rfl⟩|⟨rfl,rfl⟩|⟨rfl,rfl⟩
     . exact IsiPair.list_int e c ⟨.bl _,H,I.tok _,rfl,q⟩
     . exact IsiPair.list_bool e c ⟨.bl _,H,I.tok _,rfl,q⟩
     . exact IsiPair.list_list e c ⟨.bl _,H,I,rfl,q⟩
     . exact IsiPair.list_tuple e c ⟨.bl _,H,I.tok _,rfl,q⟩
     . exact IsiPair.list_str e c ⟨.bl _,H,I.tok _,rfl,q⟩
   . obtain⟨its,r,pl,hz⟩:=I.tuple hS;obtain⟨o,e,c,_⟩:=pl
     rcases hv with⟨rfl,rfl⟩|⟨rfl,rfl⟩|⟨rfl,rfl⟩|⟨rfl,rfl⟩|⟨rfl,rfl⟩
     . exact IsiPair.tuple_int e c ⟨.bl _,H,I.tok _,rfl,q⟩
     . exact IsiPair.tuple_bool e c ⟨.bl _,H,I.tok _,rfl,q⟩
     . exact IsiPair.tuple_list e c ⟨.bl _,H,I.tok _,rfl,q⟩
     . exact IsiPair.tuple_tuple e c ⟨.bl _,H,I,rfl,q⟩
     . exact IsiPair.tuple_str e c ⟨.bl _,H,I.tok _,rfl,q⟩
 |_=>exact hv.elim
theorem boot_isinstance:bootBuiltins "isinstance" = some (.builtin "isinstance"):=by decide +kernel
theorem boot_tuple:bootBuiltins "tuple" = some (.type "tuple"):=by decide +kernel
theorem boot_str:bootBuiltins "str" = some (.type "str"):=by decide +kernel
theorem boot_len:bootBuiltins "len" = some (.builtin "len"):=by decide +kernel
end
section
variable{P:Program}{w:World}{K:PySem.W.Frag}{mg:Str->Option Value}{base:Heap}
theorem okX{x qual:Str}{st:Stmt}{f:Addr}{fd:FuncData}{N ps:List Str}{k:Nat}{sp:Sp}(F:Fun K x qual st f fd)(S:bu N ps (aJ st))(len:∀ vs H Q E,sp vs H Q E->vs.length=ps.length)
  (hbody:∀(cdv:Value) (A:Around) (outer:List Env) (s:Shared) (H:Hp) (vs:List V) (Q:VK) (E:XK),ip k (A.deeper (envOfC qual (aJ st) s.heap.objs.size f cdv))->sp vs H Q E ->
    ∃ t,PSs (n8 (CXE P w) P w K mg base N qual (aJ st) f cdv A outer s H E) (eU st) t /\ t { nx:=fun _ H'=>Q .non H',rt:=Q } (start N vs) H):cn P w K mg base (CXE P w) (k+1) f fd ps sp:=by
 obtain⟨oc,od,kV,doc,pm,an,cdv,ct,osl,rfl,lk,hcd⟩:=F.ex
 exact Fu lk hcd S len fun A outer s H vs Q E hr hsp=>hbody cdv A outer s H vs Q E hr hsp
end
theorem SqL.new{K:PySem.W.Frag}{H:Hp}{p:Addr}{xs:List V}(h:H p=some (.lst xs)):SqL K H p xs:=.inl (.inl h)
theorem SqT.new{K:PySem.W.Frag}{H:Hp}{p:Addr}{xs:List V}(h:H p=some (.tup xs)):SqT K H p xs:=.inl (.inl h)
theorem Bg{H:Hp}{p q:Addr}{o:HO}(h:H q=some o)(n:H p=none):q≠p:=fun z=>by rw[z,n]at h;cases h
theorem _root_.L2.aD.upd{H H':Hp}{p:Addr}{o:HO}(e:aD H H')(n:H p=none):aD H (upd H' p o):=fun b u h=>by
 rw[bY (Bg h n)];exact e b u h
theorem _root_.L2.aD.new{H:Hp}{p:Addr}{o:HO}(n:H p=none):aD H (L2.upd H p o):=(aD.refl H).upd n
noncomputable def isStar:Expr->Bool
 |.Starred ..=>true
 |_=>false
theorem yd{e:Expr}{es:List Expr}{env:Env}(h:isStar e=false):starEach (e ::es) env=(false,eval e env) ::starEach es env:=by
 cases e<;>first|rfl|cases h
theorem y8{X:Cx}{e:Expr}{es:List Expr}{te:TE}{t:TA}(ha:PE X e te)(hr:PA X es t)(hs:isStar e=false:=by rfl):PA X (e ::es) (fL te t):=AB ha hr (yd hs)
end L2.E
namespace L2.P
open PySem
noncomputable def ixP(n:Nat)(i:Int):Option Nat:=if 0<=i then(if i<n then some i.toNat else none)else if -(n:Int)<=i then some (i+n).toNat else none
noncomputable def atP{α:Type}(xs:List α)(i:Int):Option α:=(ixP xs.length i).bind fun j=>xs[j]?
noncomputable def kD(n d:Nat):Option Int->Nat
 |none=>d
 |some v=>if v<0 then(v+(n:Int)).toNat else min v.toNat n
inductive PV where
 |non|bl (b:Bool)|int (i:Int)|str (s:Str)|lst (xs:List PV)|tup (xs:List PV)
inductive OV where
 | sh (x:PV)|ol (ts:List OV)|ob (c:String) (ks:List Str) (ts:List OV)
   |di (kvs:List (Int×PV))|dt (kvs:List (List Int×PV))
inductive Sl where
 | sh (x:PV)|ow (xs:List PV)|ex (c:String) (fs:List (Str×PV))
   |tr (io:Bool) (t:OV)|bo (t:OV)
abbrev ah:=List (Option Sl)
inductive RV where
 |sh (x:PV)|fr (xs:List PV)|al (xs:List PV)
noncomputable def RV.pv:RV->PV
 |.sh x=>x
 |.fr xs=>.lst xs
 |.al xs=>.lst xs
abbrev XF:=List (Str×PV)
inductive OE where
 |ok (r:RV)|exc (c:String) (fs:XF)|bad
inductive OT where
 |ok (b:Bool)|exc (c:String) (fs:XF)|bad
inductive OA where
 |ok (xs:List PV)|exc (c:String) (fs:XF)|bad
inductive OS where
 |nx (ρ:ah)|rt (ρ:ah) (r:RV)|bk (ρ:ah)|ct (ρ:ah)|exc (ρ:ah) (c:String) (fs:XF)|bad
noncomputable def OE.bind:OE->(RV->OE)->OE
 |.ok r,f=>f r
 |.exc c fs,_=>.exc c fs
 |.bad,_=>.bad
noncomputable def OE.eD:OE->(RV->OT)->OT
 |.ok r,f=>f r
 |.exc c fs,_=>.exc c fs
 |.bad,_=>.bad
noncomputable def OE.ee:OE->(RV->OA)->OA
 |.ok r,f=>f r
 |.exc c fs,_=>.exc c fs
 |.bad,_=>.bad
noncomputable def OE.bU(ρ:ah):OE->(RV->OS)->OS
 |.ok r,f=>f r
 |.exc c fs,_=>.exc ρ c fs
 |.bad,_=>.bad
noncomputable def OT.bind:OT->(Bool->OE)->OE
 |.ok r,f=>f r
 |.exc c fs,_=>.exc c fs
 |.bad,_=>.bad
noncomputable def OT.eD:OT->(Bool->OT)->OT
 |.ok r,f=>f r
 |.exc c fs,_=>.exc c fs
 |.bad,_=>.bad
noncomputable def OT.bU(ρ:ah):OT->(Bool->OS)->OS
 |.ok r,f=>f r
 |.exc c fs,_=>.exc ρ c fs
 |.bad,_=>.bad
noncomputable def OA.bind:OA->(List PV->OE)->OE
 |.ok r,f=>f r
 |.exc c fs,_=>.exc c fs
 |.bad,_=>.bad
noncomputable def OA.ee:OA->(List PV->OA)->OA
 |.ok r,f=>f r
 |.exc c fs,_=>.exc c fs
 |.bad,_=>.bad
noncomputable def OA.bU(ρ:ah):OA->(List PV->OS)->OS
 |.ok r,f=>f r
 |.exc c fs,_=>.exc ρ c fs
 |.bad,_=>.bad
noncomputable def ai(i:Nat):ah->OE:=fun ρ=>match ρ[i]? with
 |some (some (.sh x))=>.ok (.sh x)
 |some (some (.ow xs))=>.ok (.al xs)
 |_=>.bad
noncomputable def mC(x:PV):ah->OE:=fun _=>.ok (.sh x)
noncomputable def oE:Option RV->OE
 |some r=>.ok r
 |none=>.bad
noncomputable def mOp(g:PV->PV->Option RV)(ma mb:ah->OE):ah->OE:=fun ρ=>(ma ρ).bind fun a=>(mb ρ).bind fun b=>oE (g a.pv b.pv)
noncomputable def gI(C:Int->Int->Bool)(f:Int->Int->PV):PV->PV->Option RV
 |.int i,.int j=>if C i j then some (.sh (f i j))else none
 |_,_=>none
noncomputable def eT:=gI (fun _ _=>true) fun i j=>.int (i+j)
noncomputable def zR:=gI (fun _ _=>true) fun i j=>.int (i - j)
noncomputable def sU:=gI (fun i j=>(decide (-(2 ^ 64)<i)&&decide (i<2 ^ 64))||(decide (-(2 ^ 64)<j)&&decide (j<2 ^ 64))) fun i j=>.int (i*j)
noncomputable def gM:=gI (fun _ j=>decide (0<j)&&decide (j<1073741824)) fun i j=>.int (i/j)
noncomputable def bX:=gI (fun _ j=>decide (0<j)) fun i j=>.int (i%j)
noncomputable def gLt:=gI (fun _ _=>true) fun i j=>.bl (decide (i<j))
noncomputable def gLe:=gI (fun _ _=>true) fun i j=>.bl (decide (i<=j))
noncomputable def gGt:=gI (fun _ _=>true) fun i j=>.bl (decide (j<i))
noncomputable def gGe:=gI (fun _ _=>true) fun i j=>.bl (decide (j<=i))
noncomputable def eqS:PV->PV->Option Bool
 |.non,.non=>some true|.non,.int _=>some false|.int _,.non=>some false|.non,.bl _=>some false|.bl _,.non=>some false|.non,.str _=>some false|.str _,.non=>some false
 |.int a,.int b=>some (decide (a=b))|.bl a,.bl b=>some (decide (a=b))|.str a,.str b=>some (decide (a=b))
 |.int _,.str _=>some false|.str _,.int _=>some false|.bl _,.str _=>some false|.str _,.bl _=>some false
 |_,_=>none
noncomputable def gEq:PV->PV->Option RV:=fun x y=>(eqS x y).map fun b=>.sh (.bl b)
noncomputable def gNe:PV->PV->Option RV:=fun x y=>(eqS x y).map fun b=>.sh (.bl (!b))
noncomputable def jD:RV->Option PV
 |.sh x=>some x
 |.fr xs=>some (.lst xs)
 |.al _=>none
noncomputable def ax:ah->OA:=fun _=>.ok []
noncomputable def ag(me:ah->OE)(mr:ah->OA):ah->OA:=fun ρ=>(me ρ).ee fun r=>match jD r with
 |some x=>(mr ρ).ee fun xs=>.ok (x ::xs)
 |none=>.bad
noncomputable def lim:Nat:=16777216
noncomputable def dY(ma:ah->OA):ah->OE:=fun ρ=>(ma ρ).bind fun xs=>if xs.length<=lim then .ok (.fr xs)else .bad
noncomputable def bC(ma:ah->OA):ah->OE:=fun ρ=>(ma ρ).bind fun xs=>if xs.length<=lim then .ok (.sh (.tup xs))else .bad
noncomputable def aH(f:List PV->OE)(ma:ah->OA):ah->OE:=fun ρ=>(ma ρ).bind f
noncomputable def mUn(g:PV->Option RV)(ma:ah->OE):ah->OE:=fun ρ=>(ma ρ).bind fun a=>oE (g a.pv)
noncomputable def j2:PV->Option RV
 |.int i=>some (.sh (.int (-i)))
 |_=>none
noncomputable def fq:PV->Option RV
 |.lst xs=>some (.sh (.int xs.length))
 |.tup xs=>some (.sh (.int xs.length))
 |_=>none
noncomputable def eZ:PV->PV->Option RV
 |.lst xs,.int i=>(atP xs i).map .sh
 |_,_=>none
noncomputable def aN:PV->PV->Option RV
 |.tup xs,.int i=>(atP xs i).map .sh
 |_,_=>none
noncomputable def pj:List PV->Option (List Int)
 |[]=>some []
 |.int i ::r=>(pj r).map (i ::·)
 |_ ::_=>none
noncomputable def tX:List PV->Option (List Bool)
 |[]=>some []
 |.bl i ::r=>(tX r).map (i ::·)
 |_ ::_=>none
noncomputable def isP(T:String):PV->Option Bool
 |.int _=>if T = "int" then some true else if T = "bool" \/ T = "list" \/ T = "tuple" \/ T = "str" then some false else none
 |.bl _=>if T = "int" \/ T = "bool" then some true else if T = "list" \/ T = "tuple" \/ T = "str" then some false else none
 |.non=>if T = "int" \/ T = "bool" \/ T = "list" \/ T = "tuple" \/ T = "str" then some false else none
 |.str _=>if T = "str" then some true else if T = "int" \/ T = "bool" \/ T = "list" \/ T = "tuple" then some false else none
 |.lst _=>if T = "list" then some true else if T = "int" \/ T = "bool" \/ T = "tuple" \/ T = "str" then some false else none
 |.tup _=>if T = "tuple" then some true else if T = "int" \/ T = "bool" \/ T = "list" \/ T = "str" then some false else none
noncomputable def mIs(T:String)(ma:ah->OE):ah->OE:=mUn (fun x=>(isP T x).map fun b=>.sh (.bl b)) ma
noncomputable def tm:PV->Option Bool
 |.non=>some false
 |.bl b=>some b
 |.int i=>some (i != 0)
 |.lst xs=>some (!xs.isEmpty)
 |.tup xs=>some (!xs.isEmpty)
 |.str _=>none
noncomputable def oT:Option Bool->OT
 |some b=>.ok b
 |none=>.bad
noncomputable def cx(ma:ah->OE):ah->OT:=fun ρ=>(ma ρ).eD fun r=>oT (tm r.pv)
noncomputable def aI(ma:ah->OE):ah->OT:=fun ρ=>(ma ρ).eD fun r=>match r.pv with
 |.bl b=>.ok b
 |_=>.bad
noncomputable def iR(m:ah->OT):ah->OT:=fun ρ=>(m ρ).eD fun b=>.ok (!b)
noncomputable def dB(m n:ah->OT):ah->OT:=fun ρ=>(m ρ).eD fun b=>if b=true then n ρ else .ok false
noncomputable def jj(m n:ah->OT):ah->OT:=fun ρ=>(m ρ).eD fun b=>if b=true then .ok true else n ρ
noncomputable def xh(m n:ah->OE):ah->OE:=fun ρ=>(m ρ).bind fun r=>match r.pv with
 |.bl b=>if b=true then n ρ else .ok (.sh (.bl false))
 |_=>.bad
noncomputable def i5(c:ah->OT)(m n:ah->OE):ah->OE:=fun ρ=>(c ρ).bind fun b=>if b=true then m ρ else n ρ
noncomputable def sW(g g':PV->PV->Option RV)(ma mb mc:ah->OE):ah->OE:=fun ρ=>(ma ρ).bind fun a=>(mb ρ).bind fun b=>(oE (g a.pv b.pv)).bind fun r=>match r.pv with
 |.bl k=>if k=true then(mc ρ).bind fun c=>oE (g' b.pv c.pv)else .ok (.sh (.bl false))
 |_=>.bad
noncomputable def OS.andThen:OS->(ah->OS)->OS
 |.nx ρ,k=>k ρ
 |o,_=>o
noncomputable def OS.turn:OS->(ah->OS)->OS
 |.nx ρ,k=>k ρ
 |.ct ρ,k=>k ρ
 |.bk ρ,_=>.nx ρ
 |o,_=>o
noncomputable def aR(a b:ah->OS):ah->OS:=fun ρ=>(a ρ).andThen b
noncomputable def aY:ah->OS:=fun ρ=>.nx ρ
noncomputable def Ae:RV->Option Sl
 |.sh x=>some (.sh x)
 |.fr xs=>some (.ow xs)
 |.al _=>none
noncomputable def ba(i:Nat)(me:ah->OE):ah->OS:=fun ρ=>(me ρ).bU ρ fun r=>match Ae r with
 |some s=>.nx (ρ.set i (some s))
 |none=>.bad
noncomputable def bj(c:ah->OT)(m n:ah->OS):ah->OS:=fun ρ=>(c ρ).bU ρ fun b=>if b=true then m ρ else n ρ
noncomputable def bV(me:ah->OE):ah->OS:=fun ρ=>(me ρ).bU ρ fun r=>match r with
 |.al _=>.bad
 |r=>.rt ρ r
noncomputable def fA(i:Nat):ah->OS:=fun ρ=>match ρ[i]? with
 |some (some (.sh x))=>.rt ρ (.sh x)
 |some (some (.ow xs))=>.rt (ρ.set i none) (.fr xs)
 |_=>.bad
noncomputable def Fz(i:Nat)(ρ:ah):ah:=match ρ[i]? with
 |some (some (.ow xs))=>ρ.set i (some (.sh (.lst xs)))
 |_=>ρ
noncomputable def lZ(i:Nat)(me:ah->OE):ah->OS:=fun ρ=>match ρ[i]? with
 | some (some (.ow xs))=>(me ρ).bU ρ fun r=>match jD r with
   |some y=>if xs.length<lim then .nx (ρ.set i (some (.ow (xs++[y]))))else .bad
   |none=>.bad
 |_=>.bad
noncomputable def cG(i:Nat)(mb:ah->OS):List PV->ah->OS
 |[],ρ=>.nx ρ
 |x ::xs,ρ=>(mb (ρ.set i (some (.sh x)))).turn (cG i mb xs)
noncomputable def cO(n:Nat):List PV:=(List.range n).map fun k:Nat=>PV.int (k:Int)
noncomputable def i9(i:Nat)(me:ah->OE)(mb:ah->OS):ah->OS:=fun ρ=>(me ρ).bU ρ fun r=>match r.pv with
 |.int j=>if -(2 ^ 62)<=j /\ j<2 ^ 62 then cG i mb (cO j.toNat) ρ else .bad
 |_=>.bad
noncomputable def gW(mc:ah->OT)(mb:ah->OS):Nat->ah->OS
 |0,_=>.bad
 |n+1,ρ=>(mc ρ).bU ρ fun b=>if b=true then(mb ρ).turn (gW mc mb n)else .nx ρ
noncomputable def lI:PV->Option Int
 |.int i=>some i
 |_=>none
noncomputable def gg(m:ah->OE):ah->OE:=fun ρ=>(m ρ).bind fun r=>match r.pv with
 |.int i=>.ok (.sh (.int i))
 |_=>.bad
noncomputable def jt(xs:List PV)(lo hi:Option Int):List PV:=(xs.drop (kD xs.length 0 lo)).take (kD xs.length xs.length hi - kD xs.length 0 lo)
noncomputable def dg(ι:List Nat)(ρ:ah):ah:=ι.map fun i=>(ρ[i]?).join
noncomputable def cf(me:ah->OE)(ρ:ah):List PV->OA
 |[]=>.ok []
 | x ::xs=>(me (ρ++[some (.sh x)])).ee fun r=>match jD r with
   |some y=>(cf me ρ xs).ee fun ys=>.ok (y ::ys)
   |none=>.bad
noncomputable def noX:OA->OE
 |.ok xs=>if xs.length<=lim then .ok (.fr xs)else .bad
 |_=>.bad
noncomputable def DP(ml:ah->OE)(ι:List Nat)(me:ah->OE):ah->OE:=fun ρ=>(ml ρ).bind fun r=>match r.pv with
 |.lst xs=>noX (cf me (dg ι ρ) xs)
 |_=>.bad
noncomputable def nr(mn:ah->OE)(ι:List Nat)(me:ah->OE):ah->OE:=fun ρ=>(mn ρ).bind fun r=>match r.pv with
 |.int j=>if -(2 ^ 62)<=j /\ j<2 ^ 62 then noX (cf me (dg ι ρ) (cO j.toNat))else .bad
 |_=>.bad
noncomputable def fin:OS->OE
 |.nx _=>.ok (.sh .non)
 |.rt _ (.al _)=>.bad
 |.rt _ r=>.ok r
 |.exc _ c fs=>.exc c fs
 |_=>.bad
noncomputable def hZ(n:Nat)(xs:List PV):ah:=xs.map (fun x=>some (.sh x))++List.replicate (n - xs.length) none
noncomputable def fnP(np n:Nat)(m:ah->OS):List PV->OE:=fun xs=>if xs.length=np then fin (m (hZ n xs))else .bad
noncomputable def fuel:Nat:=100000
noncomputable def fK:PV->Bool
 |.non=>true
 |_=>false
noncomputable def xK:PV->PV->Option RV
 |x,.non=>some (.sh (.bl (fK x)))
 |_,_=>none
noncomputable def uq:PV->PV->Option RV
 |x,.non=>some (.sh (.bl (!fK x)))
 |_,_=>none
@[simp] theorem vp(i:Nat)(ρ:ah):ai i ρ=(match ρ[i]? with
  |some (some (.sh x))=>.ok (.sh x)
  |some (some (.ow xs))=>.ok (.al xs)
  |_=>.bad):=rfl
@[simp] theorem zI(g:PV->PV->Option RV)(ma mb:ah->OE)(ρ:ah):mOp g ma mb ρ=((ma ρ).bind fun a=>(mb ρ).bind fun b=>oE (g a.pv b.pv)):=rfl
@[simp] theorem mj(me:ah->OE)(mr:ah->OA)(ρ:ah):ag me mr ρ=((me ρ).ee fun r=>match jD r with
  |some x=>(mr ρ).ee fun xs=>.ok (x ::xs)
  |none=>.bad):=rfl
@[simp] theorem Gm(ma:ah->OA)(ρ:ah):dY ma ρ=((ma ρ).bind fun xs=>if xs.length<=lim then .ok (.fr xs)else .bad):=rfl
@[simp] theorem vT(ma:ah->OA)(ρ:ah):bC ma ρ=((ma ρ).bind fun xs=>if xs.length<=lim then .ok (.sh (.tup xs))else .bad):=rfl
@[simp] theorem BK(f:List PV->OE)(ma:ah->OA)(ρ:ah):aH f ma ρ=((ma ρ).bind f):=rfl
@[simp] theorem Ff(g:PV->Option RV)(ma:ah->OE)(ρ:ah):mUn g ma ρ=((ma ρ).bind fun a=>oE (g a.pv)):=rfl
@[simp] theorem EF(ma:ah->OE)(ρ:ah):cx ma ρ=((ma ρ).eD fun r=>oT (tm r.pv)):=rfl
@[simp] theorem F5(ma:ah->OE)(ρ:ah):aI ma ρ=((ma ρ).eD fun r=>match r.pv with
  |.bl b=>.ok b
  |_=>.bad):=rfl
@[simp] theorem FH(m:ah->OT)(ρ:ah):iR m ρ=((m ρ).eD fun b=>.ok (!b)):=rfl
@[simp] theorem FQ(m n:ah->OT)(ρ:ah):dB m n ρ=((m ρ).eD fun b=>if b=true then n ρ else .ok false):=rfl
@[simp] theorem GB(m n:ah->OT)(ρ:ah):jj m n ρ=((m ρ).eD fun b=>if b=true then .ok true else n ρ):=rfl
@[simp] theorem FP(m n:ah->OE)(ρ:ah):xh m n ρ=((m ρ).bind fun r=>match r.pv with
  |.bl b=>if b=true then n ρ else .ok (.sh (.bl false))
  |_=>.bad):=rfl
@[simp] theorem F8(c:ah->OT)(m n:ah->OE)(ρ:ah):i5 c m n ρ=((c ρ).bind fun b=>if b=true then m ρ else n ρ):=rfl
@[simp] theorem Ft(g g':PV->PV->Option RV)(ma mb mc:ah->OE)(ρ:ah):sW g g' ma mb mc ρ=((ma ρ).bind fun a=>(mb ρ).bind fun b=>(oE (g a.pv b.pv)).bind fun r=>match r.pv with
  |.bl k=>if k=true then(mc ρ).bind fun c=>oE (g' b.pv c.pv)else .ok (.sh (.bl false))
  |_=>.bad):=rfl
@[simp] theorem mX(a b:ah->OS)(ρ:ah):aR a b ρ=((a ρ).andThen b):=rfl
@[simp] theorem F0(ρ:ah):aY  ρ=(.nx ρ):=rfl
@[simp] theorem Gu(i:Nat)(me:ah->OE)(ρ:ah):ba i me ρ=((me ρ).bU ρ fun r=>match Ae r with
  |some s=>.nx (ρ.set i (some s))
  |none=>.bad):=rfl
@[simp] theorem GJ(c:ah->OT)(m n:ah->OS)(ρ:ah):bj c m n ρ=((c ρ).bU ρ fun b=>if b=true then m ρ else n ρ):=rfl
@[simp] theorem yQ(me:ah->OE)(ρ:ah):bV me ρ=((me ρ).bU ρ fun r=>match r with
  |.al _=>.bad
  |r=>.rt ρ r):=rfl
@[simp] theorem Ey(i:Nat)(ρ:ah):fA i ρ=(match ρ[i]? with
  |some (some (.sh x))=>.rt ρ (.sh x)
  |some (some (.ow xs))=>.rt (ρ.set i none) (.fr xs)
  |_=>.bad):=rfl
@[simp] theorem ye(i:Nat)(me:ah->OE)(ρ:ah):lZ i me ρ=(match ρ[i]? with
  | some (some (.ow xs))=>(me ρ).bU ρ fun r=>match jD r with
    |some y=>if xs.length<lim then .nx (ρ.set i (some (.ow (xs++[y]))))else .bad
    |none=>.bad
  |_=>.bad):=rfl
@[simp] theorem FA(i:Nat)(me:ah->OE)(mb:ah->OS)(ρ:ah):i9 i me mb ρ=((me ρ).bU ρ fun r=>match r.pv with
  |.int j=>if -(2 ^ 62)<=j /\ j<2 ^ 62 then cG i mb (cO j.toNat) ρ else .bad
  |_=>.bad):=rfl
@[simp] theorem FD(m:ah->OE)(ρ:ah):gg m ρ=((m ρ).bind fun r=>match r.pv with
  |.int i=>.ok (.sh (.int i))
  |_=>.bad):=rfl
@[simp] theorem EV(mn:ah->OE)(ι:List Nat)(me:ah->OE)(ρ:ah):nr mn ι me ρ=((mn ρ).bind fun r=>match r.pv with
  |.int j=>if -(2 ^ 62)<=j /\ j<2 ^ 62 then noX (cf me (dg ι ρ) (cO j.toNat))else .bad
  |_=>.bad):=rfl
@[simp] theorem EO(x:PV)(ρ:ah):mC x ρ=.ok (.sh x):=rfl
@[simp] theorem CN(ρ:ah):ax ρ=.ok []:=rfl
@[simp] theorem oY(r:RV)(f:RV->OE):OE.bind (.ok r) f=f r:=rfl
@[simp] theorem Dn(c:String)(fs:XF)(f:RV->OE):OE.bind (.exc c fs) f=.exc c fs:=rfl
@[simp] theorem DE{p:Prop}[Decidable p](x y:OE)(f:RV->OE):OE.bind (if p then x else y) f=if p then OE.bind x f else OE.bind y f:=by split<;>rfl
@[simp] theorem Du(r:RV)(f:RV->OT):OE.eD (.ok r) f=f r:=rfl
@[simp] theorem CD(c:String)(fs:XF)(f:RV->OT):OE.eD (.exc c fs) f=.exc c fs:=rfl
@[simp] theorem BR{p:Prop}[Decidable p](x y:OE)(f:RV->OT):OE.eD (if p then x else y) f=if p then OE.eD x f else OE.eD y f:=by split<;>rfl
@[simp] theorem wA(r:RV)(f:RV->OA):OE.ee (.ok r) f=f r:=rfl
@[simp] theorem BW(c:String)(fs:XF)(f:RV->OA):OE.ee (.exc c fs) f=.exc c fs:=rfl
@[simp] theorem B8{p:Prop}[Decidable p](x y:OE)(f:RV->OA):OE.ee (if p then x else y) f=if p then OE.ee x f else OE.ee y f:=by split<;>rfl
@[simp] theorem Ex(r:Bool)(f:Bool->OE):OT.bind (.ok r) f=f r:=rfl
@[simp] theorem Ew(c:String)(fs:XF)(f:Bool->OE):OT.bind (.exc c fs) f=.exc c fs:=rfl
@[simp] theorem DK{p:Prop}[Decidable p](x y:OT)(f:Bool->OE):OT.bind (if p then x else y) f=if p then OT.bind x f else OT.bind y f:=by split<;>rfl
@[simp] theorem C6(r:Bool)(f:Bool->OT):OT.eD (.ok r) f=f r:=rfl
@[simp] theorem BP(c:String)(fs:XF)(f:Bool->OT):OT.eD (.exc c fs) f=.exc c fs:=rfl
@[simp] theorem BQ{p:Prop}[Decidable p](x y:OT)(f:Bool->OT):OT.eD (if p then x else y) f=if p then OT.eD x f else OT.eD y f:=by split<;>rfl
@[simp] theorem yj(r:List PV)(f:List PV->OE):OA.bind (.ok r) f=f r:=rfl
@[simp] theorem C5(c:String)(fs:XF)(f:List PV->OE):OA.bind (.exc c fs) f=.exc c fs:=rfl
@[simp] theorem Eb{p:Prop}[Decidable p](x y:OA)(f:List PV->OE):OA.bind (if p then x else y) f=if p then OA.bind x f else OA.bind y f:=by split<;>rfl
@[simp] theorem vH(r:List PV)(f:List PV->OA):OA.ee (.ok r) f=f r:=rfl
@[simp] theorem BS(c:String)(fs:XF)(f:List PV->OA):OA.ee (.exc c fs) f=.exc c fs:=rfl
@[simp] theorem CB{p:Prop}[Decidable p](x y:OA)(f:List PV->OA):OA.ee (if p then x else y) f=if p then OA.ee x f else OA.ee y f:=by split<;>rfl
@[simp] theorem DA(ρ:ah)(r:RV)(f:RV->OS):OE.bU ρ (.ok r) f=f r:=rfl
@[simp] theorem Cp(ρ:ah)(c:String)(fs:XF)(f:RV->OS):OE.bU ρ (.exc c fs) f=.exc ρ c fs:=rfl
@[simp] theorem Ce{p:Prop}[Decidable p](ρ:ah)(x y:OE)(f:RV->OS):OE.bU ρ (if p then x else y) f=if p then OE.bU ρ x f else OE.bU ρ y f:=by split<;>rfl
@[simp] theorem vB(ρ:ah)(r:Bool)(f:Bool->OS):OT.bU ρ (.ok r) f=f r:=rfl
@[simp] theorem Cs(ρ:ah)(c:String)(fs:XF)(f:Bool->OS):OT.bU ρ (.exc c fs) f=.exc ρ c fs:=rfl
@[simp] theorem Cf{p:Prop}[Decidable p](ρ:ah)(x y:OT)(f:Bool->OS):OT.bU ρ (if p then x else y) f=if p then OT.bU ρ x f else OT.bU ρ y f:=by split<;>rfl
@[simp] theorem DR(ρ:ah)(r:List PV)(f:List PV->OS):OA.bU ρ (.ok r) f=f r:=rfl
@[simp] theorem BY(ρ:ah)(c:String)(fs:XF)(f:List PV->OS):OA.bU ρ (.exc c fs) f=.exc ρ c fs:=rfl
@[simp] theorem BU{p:Prop}[Decidable p](ρ:ah)(x y:OA)(f:List PV->OS):OA.bU ρ (if p then x else y) f=if p then OA.bU ρ x f else OA.bU ρ y f:=by split<;>rfl
@[simp] theorem j4(ρ:ah)(k:ah->OS):(OS.nx ρ).andThen k=k ρ:=rfl
@[simp] theorem oj(ρ:ah)(k:ah->OS):(OS.nx ρ).turn k=k ρ:=rfl
@[simp] theorem CL(ρ:ah)(k:ah->OS):(OS.bk ρ).andThen k=OS.bk ρ:=rfl
@[simp] theorem FZ(ρ:ah)(k:ah->OS):(OS.bk ρ).turn k=.nx ρ:=rfl
@[simp] theorem CP(ρ:ah)(k:ah->OS):(OS.ct ρ).andThen k=OS.ct ρ:=rfl
@[simp] theorem FK(ρ:ah)(k:ah->OS):(OS.ct ρ).turn k=k ρ:=rfl
@[simp] theorem wB(ρ:ah)(r:RV)(k:ah->OS):(OS.rt ρ r).andThen k=OS.rt ρ r:=rfl
@[simp] theorem Fy(ρ:ah)(r:RV)(k:ah->OS):(OS.rt ρ r).turn k=OS.rt ρ r:=rfl
@[simp] theorem Co(ρ:ah)(c:String)(fs:XF)(k:ah->OS):(OS.exc ρ c fs).andThen k=OS.exc ρ c fs:=rfl
@[simp] theorem Fq(ρ:ah)(c:String)(fs:XF)(k:ah->OS):(OS.exc ρ c fs).turn k=OS.exc ρ c fs:=rfl
@[simp] theorem Ca{p:Prop}[Decidable p](x y:OS)(k:ah->OS):OS.andThen (if p then x else y) k=if p then x.andThen k else y.andThen k:=by split<;>rfl
@[simp] theorem ES{p:Prop}[Decidable p](x y:OS)(k:ah->OS):OS.turn (if p then x else y) k=if p then x.turn k else y.turn k:=by split<;>rfl
@[simp] theorem G0(ρ:ah):fin (.nx ρ)=.ok (.sh .non):=rfl
@[simp] theorem F9(ρ:ah)(x:PV):fin (.rt ρ (.sh x))=.ok (.sh x):=rfl
@[simp] theorem Gy(ρ:ah)(x:List PV):fin (.rt ρ (.fr x))=.ok (.fr x):=rfl
@[simp] theorem F4(ρ:ah)(c:String)(fs:XF):fin (.exc ρ c fs)=.exc c fs:=rfl
@[simp] theorem FW{p:Prop}[Decidable p](x y:OS):fin (if p then x else y)=if p then fin x else fin y:=by split<;>rfl
@[simp] theorem Cv(x:PV):RV.pv (.sh x)=x:=rfl
@[simp] theorem E5(x:List PV):RV.pv (.fr x)=.lst x:=rfl
@[simp] theorem Hq(x:List PV):RV.pv (.al x)=.lst x:=rfl
@[simp] theorem AR(r:RV):oE (some r)=.ok r:=rfl
@[simp] theorem FE(r:Bool):oT (some r)=.ok r:=rfl
@[simp] theorem Ez(i:Nat)(mb:ah->OS)(ρ:ah):cG i mb [] ρ=.nx ρ:=rfl
@[simp] theorem ib(i:Nat)(mb:ah->OS)(x:PV)(xs:List PV)(ρ:ah):cG i mb (x ::xs) ρ=(mb (ρ.set i (some (.sh x)))).turn (cG i mb xs):=rfl
@[simp] theorem Gq(i j:Int):eT (.int i) (.int j)=some (.sh (.int (i+j))):=rfl
@[simp] theorem GO(i j:Int):zR (.int i) (.int j)=some (.sh (.int (i - j))):=rfl
@[simp] theorem Gr(i j:Int):sU (.int i) (.int j)=if((decide (-(2 ^ 64)<i)&&decide (i<2 ^ 64))||(decide (-(2 ^ 64)<j)&&decide (j<2 ^ 64)))=true then some (.sh (.int (i*j)))else none:=rfl
@[simp] theorem Gk(i j:Int):gM (.int i) (.int j)=if(decide (0<j)&&decide (j<1073741824))=true then some (.sh (.int (i/j)))else none:=rfl
@[simp] theorem Gs(i j:Int):bX (.int i) (.int j)=if decide (0<j)=true then some (.sh (.int (i%j)))else none:=rfl
@[simp] theorem Hg(i j:Int):gLt (.int i) (.int j)=some (.sh (.bl (decide (i<j)))):=rfl
@[simp] theorem Hb(i j:Int):gLe (.int i) (.int j)=some (.sh (.bl (decide (i<=j)))):=rfl
@[simp] theorem G9(i j:Int):gGt (.int i) (.int j)=some (.sh (.bl (decide (j<i)))):=rfl
@[simp] theorem Ho(i j:Int):gGe (.int i) (.int j)=some (.sh (.bl (decide (j<=i)))):=rfl
@[simp] theorem Hf(i j:Int):gEq (.int i) (.int j)=some (.sh (.bl (decide (i=j)))):=rfl
@[simp] theorem Hj(i j:Int):gNe (.int i) (.int j)=some (.sh (.bl (!decide (i=j)))):=rfl
@[simp] theorem Hc(i j:Bool):gEq (.bl i) (.bl j)=some (.sh (.bl (decide (i=j)))):=rfl
@[simp] theorem Hu(i j:Bool):gNe (.bl i) (.bl j)=some (.sh (.bl (!decide (i=j)))):=rfl
@[simp] theorem GA(xs:List PV):fq (.lst xs)=some (.sh (.int xs.length)):=rfl
@[simp] theorem GS(xs:List PV):fq (.tup xs)=some (.sh (.int xs.length)):=rfl
@[simp] theorem Gi(xs:List PV)(i:Int):eZ (.lst xs) (.int i)=(atP xs i).map .sh:=rfl
@[simp] theorem D3(xs:List PV)(i:Int):aN (.tup xs) (.int i)=(atP xs i).map .sh:=rfl
@[simp] theorem Gh{p:Prop}[Decidable p](x y:Option RV):oE (if p then x else y)=if p then oE x else oE y:=by split<;>rfl
@[simp] theorem GR(b:Bool):tm (.bl b)=some b:=rfl
@[simp] theorem Ge(i:Int):tm (.int i)=some (i != 0):=rfl
@[simp] theorem GD(xs:List PV):tm (.lst xs)=some (!xs.isEmpty):=rfl
@[simp] theorem GW(xs:List PV):tm (.tup xs)=some (!xs.isEmpty):=rfl
@[simp] theorem GX:tm .non=some false:=rfl
@[simp] theorem EB(i:Int):isP "int" (.int i)=some true:=rfl
@[simp] theorem Df(i:Int):isP "bool" (.int i)=some false:=rfl
@[simp] theorem DC(i:Bool):isP "bool" (.bl i)=some true:=rfl
@[simp] theorem CS(xs:List PV):isP "list" (.lst xs)=some true:=rfl
@[simp] theorem Fx:lI .non=none:=rfl
@[simp] theorem F3(i:Int):lI (.int i)=some i:=rfl
@[simp] theorem Gz(i:Int):j2 (.int i)=some (.sh (.int (-i))):=rfl
@[simp] theorem Ao(x:PV):jD (.sh x)=some x:=rfl
@[simp] theorem FR(x:List PV):jD (.fr x)=some (.lst x):=rfl
@[simp] theorem FN(x:PV):Ae (.sh x)=some (.sh x):=rfl
@[simp] theorem FX(x:List PV):Ae (.fr x)=some (.ow x):=rfl
@[simp] theorem Hw(np n:Nat)(m:ah->OS)(xs:List PV):fnP np n m xs=if xs.length=np then fin (m (hZ n xs))else .bad:=rfl
@[simp] theorem EK(n:Nat)(xs:List PV):hZ n xs=xs.map (fun x=>some (.sh x))++List.replicate (n - xs.length) none:=rfl
@[simp] theorem G6(x:PV):xK x .non=some (.sh (.bl (fK x))):=rfl
@[simp] theorem FU(x:PV):uq x .non=some (.sh (.bl (!fK x))):=rfl
@[simp] theorem GV(xs:List PV):noX (.ok xs)=if xs.length<=lim then .ok (.fr xs)else .bad:=rfl
@[simp] theorem D7(me:ah->OE)(ρ:ah):cf me ρ []=.ok []:=rfl
@[simp] theorem DY(f:RV->OE):OE.bind .bad f=.bad:=rfl
@[simp] theorem Cg(f:RV->OT):OE.eD .bad f=.bad:=rfl
@[simp] theorem Cz(f:RV->OA):OE.ee .bad f=.bad:=rfl
@[simp] theorem Dt(f:Bool->OE):OT.bind .bad f=.bad:=rfl
@[simp] theorem B4(f:Bool->OT):OT.eD .bad f=.bad:=rfl
@[simp] theorem CM(f:List PV->OE):OA.bind .bad f=.bad:=rfl
@[simp] theorem CI(f:List PV->OA):OA.ee .bad f=.bad:=rfl
@[simp] theorem Ct(ρ:ah)(f:RV->OS):OE.bU ρ .bad f=.bad:=rfl
@[simp] theorem BX(ρ:ah)(f:Bool->OS):OT.bU ρ .bad f=.bad:=rfl
@[simp] theorem B5(ρ:ah)(f:List PV->OS):OA.bU ρ .bad f=.bad:=rfl
@[simp] theorem Cc(k:ah->OS):OS.bad.andThen k=.bad:=rfl
@[simp] theorem Fi(k:ah->OS):OS.bad.turn k=.bad:=rfl
@[simp] theorem FY:fin .bad=.bad:=rfl
@[simp] theorem FT:oE none=.bad:=rfl
@[simp] theorem FO:oT none=.bad:=rfl
@[simp] theorem FC(x:List PV):jD (.al x)=none:=rfl
@[simp] theorem FL(x:List PV):Ae (.al x)=none:=rfl
@[simp] theorem Hl:(0<=lim)=True:=by simp[lim]
@[simp] theorem Hn:(1<=lim)=True:=by simp[lim]
@[simp] theorem Hd:(2<=lim)=True:=by simp[lim]
@[simp] theorem Hi:(3<=lim)=True:=by simp[lim]
@[simp] theorem G8:(4<=lim)=True:=by simp[lim]
@[simp] theorem Hv:(5<=lim)=True:=by simp[lim]
@[simp] theorem Hs:(6<=lim)=True:=by simp[lim]
@[simp] theorem Ht:(7<=lim)=True:=by simp[lim]
@[simp] theorem He:(8<=lim)=True:=by simp[lim]
@[simp] theorem G7:(9<=lim)=True:=by simp[lim]
@[simp] theorem GZ:(10<=lim)=True:=by simp[lim]
@[simp] theorem G1:(11<=lim)=True:=by simp[lim]
@[simp] theorem GP:(12<=lim)=True:=by simp[lim]
@[simp] theorem Gx:(13<=lim)=True:=by simp[lim]
@[simp] theorem Gb:(14<=lim)=True:=by simp[lim]
@[simp] theorem GI:(15<=lim)=True:=by simp[lim]
@[simp] theorem Gg:(16<=lim)=True:=by simp[lim]
theorem DL{n:Nat}(h:n<=1000000):n<=lim:=by unfold lim;omega
theorem zl{n:Nat}(h:n<=1000000):n<lim:=by unfold lim;omega
theorem qd{α:Type}(xs:List α)(k:Nat):atP xs (k:Int)=xs[k]?:=by
 unfold atP ixP
 by_cases h:k<xs.length
 . simp[h]
 . simp[h]
@[simp] theorem Hk{α:Type}(xs:List α):atP xs 0=xs[0]?:=qd xs 0
@[simp] theorem Ha{α:Type}(xs:List α):atP xs 1=xs[1]?:=qd xs 1
@[simp] theorem FJ{α:Type}(xs:List α)(n:Nat):atP xs (no_index (OfNat.ofNat n:Int))=xs[n]?:=qd xs n
theorem jU{α:Type}(xs:List α)(i:Int)(h:0<=i):atP xs i=xs[i.toNat]?:=by
 have:=qd xs i.toNat
 rwa [Int.toNat_of_nonneg h]at this
@[simp] theorem Hr(T:String)(ma:ah->OE)(ρ:ah):mIs T ma ρ=(ma ρ).bind fun a=>oE ((isP T a.pv).map fun b=>.sh (.bl b)):=rfl
@[simp] theorem qp(ns:List Int):pj (ns.map .int)=some ns:=by
  induction ns with
  |nil=>rfl
  |cons n ns ih=>show(pj (ns.map .int)).map (n ::·)=_;rw[ih];rfl
@[simp] theorem BZ(ns:List Bool):tX (ns.map .bl)=some ns:=by
  induction ns with
  |nil=>rfl
  |cons n ns ih=>show(tX (ns.map .bl)).map (n ::·)=_;rw[ih];rfl
@[simp] theorem Ec(n:Nat):(cO n).length=n:=by simp[cO]
theorem sH{me:ah->OE}{ρ:ah}{α:Type}{g:α->PV}{f:α->PV}(l:List α)(h:∀ a∈l,me (ρ++[some (.sh (g a))])=.ok (.sh (f a))):cf me ρ (l.map g)=.ok (l.map f):=by
 induction l with
 |nil=>rfl
 | cons a l ih=>
   have h1:=h a (List.mem_cons_self)
   have h2:=ih fun b hb=>h b (List.mem_cons_of_mem _ hb)
   simp[cf,h1,h2]
noncomputable def wd(b:Bool):PV->Bool
 |.bl c=>decide (c=b)
 |_=>false
noncomputable def Ag:PV->PV->Option RV
 |x,.bl b=>some (.sh (.bl (wd b x)))
 |_,_=>none
@[simp] theorem GN(x:PV)(b:Bool):Ag x (.bl b)=some (.sh (.bl (wd b x))):=rfl
@[simp] theorem Ga(b c:Bool):wd b (.bl c)=decide (c=b):=rfl
end L2.P
namespace L2.P
open PySem PySem.Spec PyProof.Rows L2 L2.E
mutual
noncomputable def Rep(K:PySem.W.Frag)(S:Hp):PV->V->Prop
 |.non,v=>v=.non
 |.bl b,v=>v=.bl b
 |.int i,v=>v=.int i
 |.str s,v=>v=.str s
 |.lst xs,v=>∃ p vs,v=.ref p /\ SqL K S p vs /\ bA K S xs vs
 |.tup xs,v=>∃ p vs,v=.ref p /\ SqT K S p vs /\ bA K S xs vs
noncomputable def bA(K:PySem.W.Frag)(S:Hp):List PV->List V->Prop
 |[],vs=>vs=[]
 |x ::xs,vs=>∃ v r,vs=v ::r /\ Rep K S x v /\ bA K S xs r
end
theorem _root_.L2.aD.tup{K:PySem.W.Frag}(e:aD H H')(h:SqT K H a xs):SqT K H' a xs:=by
 rcases h with(h|⟨o,h⟩)|h
 . exact .inl (.inl (e _ _ h))
 . exact .inl (.inr ⟨o,e _ _ h⟩)
 . exact .inr h
section
variable{K:PySem.W.Frag}{S S':Hp}
mutual
theorem Rep.mono(s:aD S S'):∀{x:PV} {v:V},Rep K S x v->Rep K S' x v
 |.non,_,h=>by unfold Rep at h ⊢;exact h
 |.bl _,_,h=>by unfold Rep at h ⊢;exact h
 |.int _,_,h=>by unfold Rep at h ⊢;exact h
 |.str _,_,h=>by unfold Rep at h ⊢;exact h
 | .lst _,_,h=>by
   unfold Rep at h ⊢
   obtain⟨p,vs,e,q,r⟩:=h
   exact⟨p,vs,e,aD.seq s q,bA.mono s r⟩
 | .tup _,_,h=>by
   unfold Rep at h ⊢
   obtain⟨p,vs,e,q,r⟩:=h
   exact⟨p,vs,e,aD.tup s q,bA.mono s r⟩
theorem bA.mono(s:aD S S'):∀{xs:List PV} {vs:List V},bA K S xs vs->bA K S' xs vs
 |[],_,h=>by unfold bA at h ⊢;exact h
 | _ ::_,_,h=>by
   unfold bA at h ⊢
   obtain⟨v,r,e,q,t⟩:=h
   exact⟨v,r,e,Rep.mono s q,bA.mono s t⟩
end
theorem bA.nil:bA K S [] []:=by unfold bA;rfl
theorem bA.cons(h:Rep K S x v)(t:bA K S xs vs):bA K S (x ::xs) (v ::vs):=by unfold bA;exact⟨v,vs,rfl,h,t⟩
theorem bA.nil_inv(h:bA K S [] vs):vs=[]:=by unfold bA at h;exact h
theorem bA.cons_inv(h:bA K S (x ::xs) vs):∃ v r,vs=v ::r /\ Rep K S x v /\ bA K S xs r:=by unfold bA at h;exact h
theorem bA.append(h:bA K S xs vs)(t:bA K S ys us):bA K S (xs++ys) (vs++us):=by
 induction xs generalizing vs with
 |nil=>rw[h.nil_inv];exact t
 | cons x xs ih=>
   obtain⟨v,r,rfl,q,h'⟩:=h.cons_inv;exact .cons q (ih h')
theorem bA.length{xs:List PV}{vs:List V}(h:bA K S xs vs):vs.length=xs.length:=by
 induction xs generalizing vs with
 |nil=>rw[h.nil_inv];rfl
 | cons x xs ih=>
   obtain⟨v,r,rfl,q,h'⟩:=h.cons_inv;simp[ih h']
theorem bA.get(h:bA K S xs vs):∀{i:Nat} {x:PV},xs[i]?=some x->∃ v,vs[i]?=some v /\ Rep K S x v:=by
 induction xs generalizing vs with
 |nil=>intro i x e;simp at e
 | cons y xs ih=>
   obtain⟨v,r,rfl,q,h'⟩:=h.cons_inv;intro i x e
   cases i with
   |zero=>simp at e;subst e;exact⟨v,rfl,q⟩
   |succ i=>simp at e;obtain⟨u,e1,e2⟩:=ih h' e;exact⟨u,by simpa using e1,e2⟩
theorem bA.Fh{xs:List PV}{vs:List V}(h:bA K S xs vs){i:Nat}{v:V}(e:vs[i]?=some v):∃ x,xs[i]?=some x /\ Rep K S x v:=by
 have hi:i<xs.length:=by rw[<- h.length];exact(List.getElem?_eq_some_iff.mp e).1
 obtain⟨u,e1,e2⟩:=h.get (i:=i) (x:=xs[i]) (by simp[hi]);rw[e]at e1;cases e1
 exact⟨_,by simp[hi],e2⟩
theorem bA.take{xs:List PV}{vs:List V}(h:bA K S xs vs):∀ n,bA K S (xs.take n) (vs.take n):=by
 induction xs generalizing vs with
 |nil=>intro n;rw[h.nil_inv];simpa using bA.nil
 | cons y xs ih=>
   obtain⟨v,r,rfl,q,h'⟩:=h.cons_inv;intro n
   cases n with
   |zero=>exact .nil
   |succ n=>exact .cons q (ih h' n)
theorem bA.drop{xs:List PV}{vs:List V}(h:bA K S xs vs):∀ n,bA K S (xs.drop n) (vs.drop n):=by
 induction xs generalizing vs with
 |nil=>intro n;rw[h.nil_inv];simpa using bA.nil
 | cons y xs ih=>
   obtain⟨v,r,rfl,q,h'⟩:=h.cons_inv;intro n
   cases n with
   |zero=>exact .cons q h'
   |succ n=>exact ih h' n
theorem bA.ints{ns:List Int}:bA K S (ns.map .int) (ns.map V.int):=by
 induction ns with
 |nil=>exact .nil
 |cons n ns ih=>exact .cons (by unfold Rep;rfl) ih
end
noncomputable def kC(K:PySem.W.Frag)(cls:String->Option Addr)(S H:Hp)(c:String)(fs:XF)(a C:Addr):Prop:=
 cls c=some C /\ ∃ dx,H a=some (wc a C dx) /\ (fs=[] \/ ∃ d us,dx=some d /\ H d=some (.xd us) /\ fs.map (·.1)=us.map (·.1) /\ bA K S (fs.map (·.2)) (us.map (·.2)))
noncomputable def isX:HO->Bool
 |.ext _=>true
 |.xd _=>true
 |_=>false
noncomputable def Aa(K:PySem.W.Frag)(S:Hp)(kvs:List (Int×PV))(us:List (Key×V)):Prop:=Paired (fun (p:Int×PV) (q:Key×V)=>q.1=Sum.inl p.1 /\ Rep K S p.2 q.2) kvs us
noncomputable def cF(K:PySem.W.Frag)(S:Hp)(kvs:List (List Int×PV))(us:List (List Key×Addr×V)):Prop:=Paired (fun (p:List Int×PV) (q:List Key×Addr×V)=>q.1=p.1.map Sum.inl /\ Rep K S (.tup (p.1.map .int)) (.ref q.2.1) /\ Rep K S p.2 q.2.2) kvs us
theorem Aa.mono{K:PySem.W.Frag}(s:aD S S'):∀{kvs:List (Int×PV)} {us:List (Key×V)},Aa K S kvs us->Aa K S' kvs us
 |_,_,.nil=>.nil
 |_,_,.cons h t=>.cons ⟨h.1,Rep.mono s h.2⟩ (Aa.mono s t)
theorem cF.mono{K:PySem.W.Frag}(s:aD S S'):∀{kvs:List (List Int×PV)} {us:List (List Key×Addr×V)},cF K S kvs us->cF K S' kvs us
 |_,_,.nil=>.nil
 |_,_,.cons h t=>.cons ⟨h.1,Rep.mono s h.2.1,Rep.mono s h.2.2⟩ (cF.mono s t)
mutual
noncomputable def bG(K:PySem.W.Frag)(cls:String->Option Addr)(S H:Hp):OV->V->List Addr->Prop
 |.sh x,v,fp=>fp=[] /\ Rep K S x v
 |.ol ts,v,fp=>∃ p vs f,v=.ref p /\ H p=some (.lst vs) /\ fp=p ::f /\ bz K cls S H ts vs f
 |.ob c ks ts,v,fp=>∃ p C dx us f,v=.ref p /\ cls c=some C /\ H p=some (.ins C dx us) /\ H dx=some (.own p) /\ us.map (·.1)=ks /\ fp=p ::dx ::f /\ bz K cls S H ts (us.map (·.2)) f
 |.di kvs,v,fp=>∃ p us,v=.ref p /\ H p=some (.dK us) /\ fp=[p] /\ Aa K S kvs us
 |.dt kvs,v,fp=>∃ p us,v=.ref p /\ H p=some (.dT us) /\ fp=[p] /\ cF K S kvs us
noncomputable def bz(K:PySem.W.Frag)(cls:String->Option Addr)(S H:Hp):List OV->List V->List Addr->Prop
 |[],vs,fp=>vs=[] /\ fp=[]
 |t ::ts,vs,fp=>∃ v r f1 f2,vs=v ::r /\ fp=f1++f2 /\ bG K cls S H t v f1 /\ bz K cls S H ts r f2
end
noncomputable def p7(K:PySem.W.Frag)(cls:String->Option Addr)(Av G S H:Hp)(i:Nat):Sl->V->List Addr->Prop
 |.sh x,v,fp=>fp=[] /\ Rep K S x v
 |.ow xs,v,fp=>∃ p vs,v=.ref p /\ fp=[p] /\ G p=none /\ S p=none /\ H p=some (.lst vs) /\ bA K S xs vs
 |.ex c fs,v,fp=>fp=[] /\ ∃ a C,v=.ref a /\ kC K cls S H c fs a C
 |.tr io t,v,fp=>bG K cls S H t v fp /\ fp.Nodup /\ (∀ a∈fp,G a=none /\ S a=none) /\ (io=true->Av i=some (.lst [v]))
 |.bo t,v,fp=>fp=[] /\ ∃ f,bG K cls S G t v f
noncomputable def CA(K:PySem.W.Frag)(cls:String->Option Addr)(G S H:Hp):Sl->V->Prop
 |.sh x,v=>Rep K S x v
 |.ow xs,v=>∃ p vs,v=.ref p /\ G p=none /\ S p=none /\ H p=some (.lst vs) /\ bA K S xs vs
 |.ex c fs,v=>∃ a C,v=.ref a /\ kC K cls S H c fs a C
 |_,_=>True
noncomputable def jr(K:PySem.W.Frag)(B S H:Hp):RV->V->Prop
 |.sh x,v=>Rep K S x v
 |.fr xs,v=>∃ p vs,v=.ref p /\ B p=none /\ S p=none /\ H p=some (.lst vs) /\ bA K S xs vs
 |.al xs,v=>∃ p vs,v=.ref p /\ SqL K H p vs /\ bA K S xs vs
noncomputable def RdV(K:PySem.W.Frag)(S H:Hp):PV->V->Prop
 |.lst xs,v=>∃ p vs,v=.ref p /\ SqL K H p vs /\ bA K S xs vs
 |x,v=>Rep K S x v
structure SRF(K:PySem.W.Frag)(cls:String->Option Addr)(Av G S₀:Hp)(ρ:ah)(σ:St)(S H:Hp)(F:Nat->List Addr):Prop where
 gh:aD G H
 s0:aD S₀ S
 sh:aD S H
 new:∀ b,S b≠none->S₀ b≠none \/ G b=none
 own:∀(i:Nat) (s:Sl),ρ[i]?=some (some s)->∃ v,σ[i]?=some (some v) /\ p7 K cls Av G S H i s v (F i)
 apart:∀ i j a,a∈F i->a∈F j->i=j
 live:∀ i a,a∈F i->(∃ o,H a=some o /\ isX o=false) /\ G a=none /\ S a=none
 len:ρ.length=σ.length
noncomputable def SR(K:PySem.W.Frag)(cls:String->Option Addr)(Av G S₀:Hp)(ρ:ah)(σ:St)(S H:Hp):Prop:=∃ F,SRF K cls Av G S₀ ρ σ S H F
section
variable{K:PySem.W.Frag}{cls:String->Option Addr}{Av G S₀ S S' H H' B:Hp}{ρ:ah}{σ:St}{F:Nat->List Addr}
theorem SR.gh(I:SR K cls Av G S₀ ρ σ S H):aD G H:=let ⟨_,J⟩:=I;J.gh
theorem SR.s0(I:SR K cls Av G S₀ ρ σ S H):aD S₀ S:=let ⟨_,J⟩:=I;J.s0
theorem SR.sh(I:SR K cls Av G S₀ ρ σ S H):aD S H:=let ⟨_,J⟩:=I;J.sh
theorem SR.new(I:SR K cls Av G S₀ ρ σ S H):∀ b,S b≠none->S₀ b≠none \/ G b=none:=let ⟨_,J⟩:=I;J.new
theorem SR.len(I:SR K cls Av G S₀ ρ σ S H):ρ.length=σ.length:=let ⟨_,J⟩:=I;J.len
theorem p7.one(h:p7 K cls Av G S H i s v fp):CA K cls G S H s v:=by
 cases s with
 |sh x=>exact h.2
 |ow xs=>obtain⟨p,vs,e,_,r⟩:=h;exact⟨p,vs,e,r⟩
 |ex c fs=>exact h.2
 |tr io t=>trivial
 |bo t=>trivial
theorem SR.good(I:SR K cls Av G S₀ ρ σ S H)(i:Nat)(s:Sl)(e:ρ[i]?=some (some s)):∃ v,σ[i]?=some (some v) /\ CA K cls G S H s v:=by
 obtain⟨F,J⟩:=I;obtain⟨v,e1,r⟩:=J.own i s e
 exact⟨v,e1,r.one⟩
theorem kC.mono(h:kC K cls S H c fs a C)(s:aD S S')(g:aD H H'):kC K cls S' H' c fs a C:=by
 obtain⟨h1,dx,h2,h3⟩:=h
 refine⟨h1,dx,g _ _ h2,?_⟩
 rcases h3 with h3|⟨d,us,e1,e2,e3,e4⟩
 . exact .inl h3
 . exact .inr ⟨d,us,e1,g _ _ e2,e3,e4.mono s⟩
theorem kC.EG(h:kC K cls S H c fs a C)(s:aD S S')(g:∀ b o,isX o=true->H b=some o->H' b=some o):kC K cls S' H' c fs a C:=by
 obtain⟨h1,dx,h2,h3⟩:=h
 refine⟨h1,dx,g _ _ rfl h2,?_⟩
 rcases h3 with h3|⟨d,us,e1,e2,e3,e4⟩
 . exact .inl h3
 . exact .inr ⟨d,us,e1,g _ _ rfl e2,e3,e4.mono s⟩
mutual
theorem bG.mono(s:aD S S'):∀{t:OV} {v:V} {fp:List Addr},bG K cls S H t v fp->(∀ a∈fp,∀ o,H a=some o->H' a=some o)->bG K cls S' H' t v fp
 |.sh _,_,_,h,_=>by unfold bG at h ⊢;exact⟨h.1,Rep.mono s h.2⟩
 | .ol _,_,_,h,g=>by
   unfold bG at h ⊢
   obtain⟨p,vs,f,e,q,e2,r⟩:=h;subst e2
   exact⟨p,vs,f,e,g p (by simp) _ q,rfl,bz.mono s r fun a ha=>g a (by simp[ha])⟩
 | .ob _ _ _,_,_,h,g=>by
   unfold bG at h ⊢
   obtain⟨p,C,dx,us,f,e,c,q,q2,k,e2,r⟩:=h;subst e2
   exact⟨p,C,dx,us,f,e,c,g p (by simp) _ q,g dx (by simp) _ q2,k,rfl,bz.mono s r fun a ha=>g a (by simp[ha])⟩
 | .di _,_,_,h,g=>by
   unfold bG at h ⊢
   obtain⟨p,us,e,q,e2,r⟩:=h;subst e2
   exact⟨p,us,e,g p (by simp) _ q,rfl,r.mono s⟩
 | .dt _,_,_,h,g=>by
   unfold bG at h ⊢
   obtain⟨p,us,e,q,e2,r⟩:=h;subst e2
   exact⟨p,us,e,g p (by simp) _ q,rfl,r.mono s⟩
theorem bz.mono(s:aD S S'):∀{ts:List OV} {vs:List V} {fp:List Addr},bz K cls S H ts vs fp->(∀ a∈fp,∀ o,H a=some o->H' a=some o)->bz K cls S' H' ts vs fp
 |[],_,_,h,_=>by unfold bz at h ⊢;exact h
 | _ ::_,_,_,h,g=>by
   unfold bz at h ⊢
   obtain⟨v,r,f1,f2,e,e2,q,t⟩:=h;subst e2
   exact⟨v,r,f1,f2,e,rfl,bG.mono s q fun a ha=>g a (List.mem_append_left _ ha),bz.mono s t fun a ha=>g a (List.mem_append_right _ ha)⟩
end
mutual
theorem bG.live:∀{t:OV} {v:V} {fp:List Addr},bG K cls S H t v fp->∀ a∈fp,∃ o,H a=some o /\ isX o=false
 |.sh _,_,_,h,a,ha=>by unfold bG at h;rw[h.1]at ha;cases ha
 | .ol _,_,_,h,a,ha=>by
   unfold bG at h;obtain⟨p,vs,f,e,q,e2,r⟩:=h;subst e2
   rcases List.mem_cons.mp ha with z|z
   . subst z;exact⟨_,q,rfl⟩
   . exact bz.live r a z
 | .ob _ _ _,_,_,h,a,ha=>by
   unfold bG at h;obtain⟨p,C,dx,us,f,e,c,q,q2,k,e2,r⟩:=h;subst e2
   rcases List.mem_cons.mp ha with z|z
   . subst z;exact⟨_,q,rfl⟩
   . rcases List.mem_cons.mp z with z|z
     . subst z;exact⟨_,q2,rfl⟩
     . exact bz.live r a z
 | .di _,_,_,h,a,ha=>by
   unfold bG at h;obtain⟨p,us,e,q,e2,r⟩:=h;subst e2
   have z:a=p:=by simpa using ha
   subst z
   exact⟨_,q,rfl⟩
 | .dt _,_,_,h,a,ha=>by
   unfold bG at h;obtain⟨p,us,e,q,e2,r⟩:=h;subst e2
   have z:a=p:=by simpa using ha
   subst z
   exact⟨_,q,rfl⟩
theorem bz.live:∀{ts:List OV} {vs:List V} {fp:List Addr},bz K cls S H ts vs fp->∀ a∈fp,∃ o,H a=some o /\ isX o=false
 |[],_,_,h,a,ha=>by unfold bz at h;rw[h.2]at ha;cases ha
 | _ ::_,_,_,h,a,ha=>by
   unfold bz at h;obtain⟨v,r,f1,f2,e,e2,q,t⟩:=h;subst e2
   rcases List.mem_append.mp ha with z|z
   . exact bG.live q a z
   . exact bz.live t a z
end
theorem p7.mono(h:p7 K cls Av G S H i sl v fp)(s:aD S S')(g:∀ a∈fp,∀ o,H a=some o->H' a=some o)(x:∀ b o,isX o=true->H b=some o->H' b=some o)(n:∀ a∈fp,S' a=none):p7 K cls Av G S' H' i sl v fp:=by
 cases sl with
 |sh y=>exact⟨h.1,Rep.mono s h.2⟩
 | ow xs=>
   obtain⟨p,vs,e,e2,h1,h2,h3,h4⟩:=h;subst e2
   exact⟨p,vs,e,rfl,h1,n p (by simp),g p (by simp) _ h3,h4.mono s⟩
 |ex c fs=>obtain⟨e,a,C,e2,q⟩:=h;exact⟨e,a,C,e2,q.EG s x⟩
 |tr io t=>exact⟨h.1.mono s g,h.2.1,fun a ha=>⟨(h.2.2.1 a ha).1,n a ha⟩,h.2.2.2⟩
 |bo t=>obtain⟨e,f,r⟩:=h;exact⟨e,f,r.mono s fun _ _ _ z=>z⟩
theorem RdV.mono(h:RdV K S H x v)(s:aD S S')(g:aD H H'):RdV K S' H' x v:=by
 cases x with
 |lst xs=>obtain⟨p,vs,e,q,r⟩:=h;exact⟨p,vs,e,aD.seq g q,r.mono s⟩
 |non=>exact Rep.mono s h
 |bl b=>exact Rep.mono s h
 |int i=>exact Rep.mono s h
 |str x=>exact Rep.mono s h
 |tup xs=>exact Rep.mono s h
theorem Rep.rd(h:Rep K S x v)(g:aD S H):RdV K S H x v:=by
 cases x with
 |lst xs=>unfold Rep at h;obtain⟨p,vs,e,q,r⟩:=h;exact⟨p,vs,e,aD.seq g q,r⟩
 |non=>exact h
 |bl b=>exact h
 |int i=>exact h
 |str x=>exact h
 |tup xs=>exact h
theorem jr.rd{r:RV}(h:jr K B S H r v)(g:aD S H):RdV K S H r.pv v:=by
 cases r with
 |sh x=>exact Rep.rd h g
 |fr xs=>obtain⟨p,vs,e,_,_,q,r⟩:=h;exact⟨p,vs,e,SqL.new q,r⟩
 |al xs=>exact h
theorem SRF.change(I:SRF K cls Av G S₀ ρ σ S H F)(gh:aD G H')(s:aD S S')(sh:aD S' H')(new:∀ b,S' b≠none->S₀ b≠none \/ G b=none)
  (g:∀ i a,a∈F i->∀ o,H a=some o->H' a=some o) (x:∀ b o,isX o=true->H b=some o->H' b=some o) (n:∀ i a,a∈F i->S' a=none):SRF K cls Av G S₀ ρ σ S' H' F where
 gh:=gh
 s0:=I.s0.trans s
 sh:=sh
 new:=new
 own:=fun i t e=>by
  obtain⟨v,e1,r⟩:=I.own i t e
  exact⟨v,e1,r.mono s (fun a ha=>g i a ha) x fun a ha=>n i a ha⟩
 apart:=I.apart
 live:=fun i a ha=>by
  obtain⟨⟨o,h1,h2⟩,h3,_⟩:=I.live i a ha
  exact⟨⟨o,g i a ha o h1,h2⟩,h3,n i a ha⟩
 len:=I.len
theorem SRF.same(I:SRF K cls Av G S₀ ρ σ S H F)(g:aD H H'):SRF K cls Av G S₀ ρ σ S H' F:=
 I.change (I.gh.trans g) (aD.refl _) (I.sh.trans g) I.new (fun _ _ _ o e=>g _ _ e) (fun _ _ _ e=>g _ _ e) fun i a ha=>(I.live i a ha).2.2
theorem SR.same(I:SR K cls Av G S₀ ρ σ S H)(g:aD H H'):SR K cls Av G S₀ ρ σ S H':=let ⟨F,J⟩:=I;⟨F,J.same g⟩
theorem set_inv{α:Type}{l:List (Option α)}{x:Option α}{s:α}(h:(l.set i x)[j]?=some (some s)):(j=i /\ x=some s /\ i<l.length) \/ (j≠i /\ l[j]?=some (some s)):=by
 by_cases e:j=i
 . subst e;rw[List.getElem?_set]at h;simp only[if_true]at h;split at h
   . rename_i hl;exact .inl ⟨rfl,Option.some.inj h,hl⟩
   . cases h
 . rw[List.getElem?_set_ne (Ne.symm e)]at h;exact .inr ⟨e,h⟩
theorem DO{α:Type}{l:List (Option α)}{x:Option α}(h:i<l.length):(l.set i x)[i]?=some x:=by
 rw[List.getElem?_set];simp[h]
noncomputable def nj(F:Nat->List Addr)(i:Nat)(fp:List Addr):Nat->List Addr:=fun j=>if j=i then fp else F j
theorem iD:nj F i fp i=fp:=by unfold nj;rw[if_pos rfl]
theorem fw(h:j≠i):nj F i fp j=F j:=by unfold nj;rw[if_neg h]
theorem SRF.put(I:SRF K cls Av G S₀ ρ σ S H F)(h:∀ t,s=some t->∃ v,u=some v /\ p7 K cls Av G S H i t v fp)
  (hl:∀ a∈fp,(∃ o,H a=some o /\ isX o=false) /\ G a=none /\ S a=none) (ap:∀ j a,j≠i->a∈fp->a∉F j):SRF K cls Av G S₀ (ρ.set i s) (σ.set i u) S H (nj F i fp) where
 gh:=I.gh
 s0:=I.s0
 sh:=I.sh
 new:=I.new
 own:=fun j t e=>by
  rcases set_inv e with⟨rfl,e1,hl⟩|⟨ne,e1⟩
  . obtain⟨v,e2,r⟩:=h t e1
    exact⟨v,by rw[DO (by rw[<- I.len];exact hl),e2],by rw[iD];exact r⟩
  . rw[List.getElem?_set_ne (Ne.symm ne),fw ne];exact I.own j t e1
 apart:=fun j k a h1 h2=>by
  by_cases ej:j=i
  . by_cases ek:k=i
    . rw[ej,ek]
    . subst ej;rw[iD]at h1;rw[fw ek]at h2;exact absurd h2 (ap k a ek h1)
  . by_cases ek:k=i
    . subst ek;rw[iD]at h2;rw[fw ej]at h1;exact absurd h1 (ap j a ej h2)
    . rw[fw ej]at h1;rw[fw ek]at h2;exact I.apart j k a h1 h2
 live:=fun j a ha=>by
  by_cases ej:j=i
  . subst ej;rw[iD]at ha;exact hl a ha
  . rw[fw ej]at ha;exact I.live j a ha
 len:=by simp[I.len]
theorem SR.wN(I:SR K cls Av G S₀ ρ σ S H)(h:Rep K S x v):SR K cls Av G S₀ (ρ.set i (some (.sh x))) (σ.set i (some v)) S H:=by
 obtain⟨F,J⟩:=I
 exact⟨_,J.put (fp:=[]) (fun t e=>by cases e;exact⟨v,rfl,rfl,h⟩) (fun a ha=>nomatch ha) fun j a _ ha=>nomatch ha⟩
theorem SR.ED(I:SR K cls Av G S₀ ρ σ S H):SR K cls Av G S₀ (ρ.set i none) (σ.set i v) S H:=by
 obtain⟨F,J⟩:=I
 exact⟨_,J.put (fp:=[]) (fun t e=>nomatch e) (fun a ha=>nomatch ha) fun j a _ ha=>nomatch ha⟩
theorem kF{α:Type}{l:List α}{x:α}(h:l[i]?=some x):l.set i x=l:=by
 apply List.ext_getElem?;intro j
 by_cases e:i=j
 . subst e;rw[List.getElem?_set,if_pos rfl,if_pos (List.getElem?_eq_some_iff.mp h).1,h]
 . rw[List.getElem?_set_ne e]
theorem SR.drop(I:SR K cls Av G S₀ ρ σ S H):SR K cls Av G S₀ (ρ.set i none) σ S H:=by
 cases e:σ[i]? with
 |some v=>have:=I.ED (i:=i) (v:=v);rwa [kF e]at this
 | none=>
   have h1:σ.length<=i:=List.getElem?_eq_none_iff.mp e
   rw[List.set_eq_of_length_le (by rw[I.len];exact h1)];exact I
theorem SR.mut(I:SR K cls Av G S₀ ρ σ S H)(hi:ρ[i]?=some (some (.ow xs)))(hv:σ[i]?=some (some (.ref p)))(hr:bA K S ys us):SR K cls Av G S₀ (ρ.set i (some (.ow ys))) σ S (upd H p (.lst us)):=by
 obtain⟨F,J⟩:=I;obtain⟨v,e1,q,vs,e2,e3,hG,hS,hH,_⟩:=J.own i _ hi;rw[hv]at e1;cases e1;cases e2
 have J1:SRF K cls Av G S₀ (ρ.set i none) (σ.set i none) S H (nj F i []):=J.put (fun t e=>nomatch e) (fun a ha=>nomatch ha) fun j a _ ha=>nomatch ha
 have off:∀ j a,a∈nj F i [] j->a≠p:=fun j a ha z=>by
  by_cases ej:j=i
  . subst ej;rw[iD]at ha;cases ha
  . rw[fw ej]at ha;exact ej (J.apart j i a ha (by rw[e3,z];simp))
 have J2:=J1.change (H':=upd H p (.lst us)) (J.gh.upd hG) (aD.refl _) (J.sh.upd hS) J.new (fun j a ha o h=>by rw[bY (off j a ha)];exact h)
  (fun b o hx h=>by
    rw[bY]
    . exact h
    . intro z;rw[z,hH]at h;cases h;cases hx)
  fun j a ha=>(J1.live j a ha).2.2
 have J3:=J2.put (i:=i) (s:=some (.ow ys)) (u:=some (.ref p)) (fp:=[p]) (fun t e=>by cases e;exact⟨_,rfl,p,us,rfl,rfl,hG,hS,bE,hr⟩) (fun a ha=>by
  have z:a=p:=by simpa using ha
  subst z
  exact⟨⟨_,bE,rfl⟩,hG,hS⟩) fun j a hj ha hz=>by
   have z:a=p:=by simpa using ha
   exact off j a hz z
 rw[List.set_set,List.set_set,kF hv]at J3
 exact⟨_,J3⟩
end
structure aZ(S H S' H':Hp):Prop where
 s:aD S S'
 g:aD H H'
 sh:aD S' H'
 new:∀ b,S' b≠none->S b≠none \/ H b=none
theorem aZ.refl(h:aD S H):aZ S H S H:=⟨aD.refl _,aD.refl _,h,fun _ z=>.inl z⟩
theorem aZ.trans(a:aZ S H S1 H1)(b:aZ S1 H1 S2 H2):aZ S H S2 H2:=
 ⟨a.s.trans b.s,a.g.trans b.g,b.sh,fun x h=>by
   rcases b.new x h with z|z
   . exact a.new x z
   . exact .inr (a.g.free z)⟩
theorem SRF.grow{K:PySem.W.Frag}{cls:String->Option Addr}{F:Nat->List Addr}(I:SRF K cls Av G S₀ ρ σ S H F)(w:aZ S H S' H'):SRF K cls Av G S₀ ρ σ S' H' F:=
 I.change (I.gh.trans w.g) w.s w.sh (fun b h=>by
  rcases w.new b h with z|z
  . exact I.new b z
  . exact .inr (I.gh.free z)) (fun i a _ o h=>w.g _ _ h) (fun b o _ h=>w.g _ _ h) fun i a ha=>by
    obtain⟨⟨o,h1,_⟩,_,h3⟩:=I.live i a ha
    cases q:S' a with
    |none=>rfl
    | some o=>
      rcases w.new a (by rw[q];simp)with z|z
      . exact absurd h3 z
      . rw[h1]at z;cases z
theorem SR.grow{K:PySem.W.Frag}{cls:String->Option Addr}(I:SR K cls Av G S₀ ρ σ S H)(w:aZ S H S' H'):SR K cls Av G S₀ ρ σ S' H':=let ⟨F,J⟩:=I;⟨F,J.grow w⟩
theorem SR.EZ{K:PySem.W.Frag}{cls:String->Option Addr}{ρ:ah}{σ:St}(I:SR K cls Av G S₀ ρ σ S H)(w:aZ S H S' H')(h:jr K H S' H' (.fr xs) v):SR K cls Av G S₀ (ρ.set i (some (.ow xs))) (σ.set i (some v)) S' H':=by
 obtain⟨F,J⟩:=I;obtain⟨p,vs,rfl,hB,hS,hH,hr⟩:=h;have hG:=J.gh.free hB
 refine⟨_,(J.grow w).put (fp:=[p]) (fun t e=>by cases e;exact⟨_,rfl,p,vs,rfl,rfl,hG,hS,hH,hr⟩) (fun a ha=>?_) fun j a _ ha hz=>?_⟩
 . have z:a=p:=by simpa using ha
   subst z
   exact⟨⟨_,hH,rfl⟩,hG,hS⟩
 . have z:a=p:=by simpa using ha
   subst z;obtain⟨⟨o,h1,_⟩,_⟩:=J.live j a hz;rw[hB]at h1;cases h1
theorem aZ.heap(h:aD S H)(hp:H p=none):aZ S H S (upd H p o):=⟨aD.refl _,aD.new hp,h.trans (aD.new hp),fun _ z=>.inl z⟩
theorem aZ.both(h:aD S H)(hp:H p=none):aZ S H (upd S p o) (upd H p o):=by
 have hS:=h.free hp
 refine⟨aD.new hS,aD.new hp,fun b u z=>?_,fun b z=>?_⟩
 . by_cases e:b=p
   . subst e;rw[bE]at z ⊢;exact z
   . rw[bY e]at z ⊢;exact h b u z
 . by_cases e:b=p
   . subst e;exact .inr hp
   . rw[bY e]at z;exact .inl z
section
variable(K:PySem.W.Frag)(cls:String->Option Addr)(W:XW)
noncomputable def jz(σ:St)(S H:Hp)(Q:VK):OE->Prop
 |.ok r=>∀ v S' H',aZ S H S' H'->jr K H S' H' r v->Q v H'
 |.exc c fs=>∀ a C S' H',aZ S H S' H'->kC K cls S' H' c fs a C->W (.ref C) (some a) σ H'
 |.bad=>False
noncomputable def pW(σ:St)(S H:Hp)(Q:Bool->Hp->Prop):OT->Prop
 |.ok b=>∀ S' H',aZ S H S' H'->Q b H'
 |.exc c fs=>∀ a C S' H',aZ S H S' H'->kC K cls S' H' c fs a C->W (.ref C) (some a) σ H'
 |.bad=>False
noncomputable def r6(σ:St)(S H:Hp)(Q:List V->Hp->Prop):OA->Prop
 |.ok xs=>∀ vs S' H',aZ S H S' H'->bA K S' xs vs->Q vs H'
 |.exc c fs=>∀ a C S' H',aZ S H S' H'->kC K cls S' H' c fs a C->W (.ref C) (some a) σ H'
 |.bad=>False
noncomputable def fW(Av G S₀:Hp)(S:Hp)(D:Ends):OS->Prop
 |.nx ρ=>∀ σ' S' H',SR K cls Av G S₀ ρ σ' S' H'->aD S S'->D.nx σ' H'
 |.bk ρ=>∀ σ' S' H',SR K cls Av G S₀ ρ σ' S' H'->aD S S'->D.bk σ' H'
 |.ct ρ=>∀ σ' S' H',SR K cls Av G S₀ ρ σ' S' H'->aD S S'->D.ct σ' H'
 |.rt ρ r=>∀ v σ' S' H',SR K cls Av G S₀ ρ σ' S' H'->aD S S'->jr K G S' H' r v->D.rt v H'
 |.exc ρ c fs=>∀ a C σ' S' H',SR K cls Av G S₀ ρ σ' S' H'->aD S S'->kC K cls S' H' c fs a C->W (.ref C) (some a) σ' H'
 |.bad=>False
noncomputable def JE(te:TE)(m:ah->OE):Prop:=∀ Av G S₀ ρ σ S H Q,SR K cls Av G S₀ ρ σ S H->jz K cls W σ S H Q (m ρ)->te σ H Q
noncomputable def JT(te:TT)(m:ah->OT):Prop:=∀ Av G S₀ ρ σ S H Q,SR K cls Av G S₀ ρ σ S H->pW K cls W σ S H Q (m ρ)->te σ H Q
noncomputable def JA(te:TA)(m:ah->OA):Prop:=∀ Av G S₀ ρ σ S H Q,SR K cls Av G S₀ ρ σ S H->r6 K cls W σ S H Q (m ρ)->te σ H Q
noncomputable def JS(ts:TS)(m:ah->OS):Prop:=∀ Av G S₀ ρ σ S H D,SR K cls Av G S₀ ρ σ S H->fW K cls W Av G S₀ S D (m ρ)->ts D σ H
end
section
variable{K:PySem.W.Frag}{cls:String->Option Addr}{W:XW}{Av G S₀ S S' H H' B B':Hp}{ρ:ah}{σ:St}{Q:VK}
theorem jr.back(h:jr K B' S H r v)(g:aD B B'):jr K B S H r v:=by
 cases r with
 |sh x=>exact h
 |fr xs=>obtain⟨p,vs,e,h1,h2⟩:=h;exact⟨p,vs,e,g.free h1,h2⟩
 |al xs=>exact h
theorem jz.back(w:aZ S H S1 H1)(h:jz K cls W σ S H Q o):jz K cls W σ S1 H1 Q o:=by
 cases o with
 |ok r=>exact fun v S' H' w' r=>h v S' H' (w.trans w') (r.back w.g)
 |exc c fs=>exact fun a C S' H' w' r=>h a C S' H' (w.trans w') r
 |bad=>exact h
theorem pW.back{Q:Bool->Hp->Prop}(w:aZ S H S1 H1)(h:pW K cls W σ S H Q o):pW K cls W σ S1 H1 Q o:=by
 cases o with
 |ok r=>exact fun S' H' w'=>h S' H' (w.trans w')
 |exc c fs=>exact fun a C S' H' w' r=>h a C S' H' (w.trans w') r
 |bad=>exact h
theorem r6.back{Q:List V->Hp->Prop}(w:aZ S H S1 H1)(h:r6 K cls W σ S H Q o):r6 K cls W σ S1 H1 Q o:=by
 cases o with
 |ok r=>exact fun v S' H' w' r=>h v S' H' (w.trans w') r
 |exc c fs=>exact fun a C S' H' w' r=>h a C S' H' (w.trans w') r
 |bad=>exact h
theorem fW.back(s:aD S S1)(h:fW K cls W Av G S₀ S D o):fW K cls W Av G S₀ S1 D o:=by
 cases o with
 |nx ρ=>exact fun σ' S' H' I s'=>h σ' S' H' I (s.trans s')
 |bk ρ=>exact fun σ' S' H' I s'=>h σ' S' H' I (s.trans s')
 |ct ρ=>exact fun σ' S' H' I s'=>h σ' S' H' I (s.trans s')
 |rt ρ r=>exact fun v σ' S' H' I s'=>h v σ' S' H' I (s.trans s')
 |exc ρ c fs=>exact fun a C σ' S' H' I s'=>h a C σ' S' H' I (s.trans s')
 |bad=>exact h
theorem JE.go{m:ah->OE}{f:RV->OE}(h:JE K cls W te m)(I:SR K cls Av G S₀ ρ σ S H)(p:jz K cls W σ S H Q ((m ρ).bind f))
  (k:∀ r v S1 H1,SR K cls Av G S₀ ρ σ S1 H1->aZ S H S1 H1->jr K H S1 H1 r v->jz K cls W σ S1 H1 Q (f r)->Q' v H1):te σ H Q':=by
 refine h Av G S₀ ρ σ S H Q' I ?_
 cases e:m ρ with
 |ok r=>rw[e]at p;exact fun v S1 H1 w r1=>k r v S1 H1 (I.grow w) w r1 (p.back w)
 |exc c fs=>rw[e]at p;exact p
 |bad=>rw[e]at p;exact p
theorem JE.goT{m:ah->OE}{f:RV->OT}{Q:Bool->Hp->Prop}(h:JE K cls W te m)(I:SR K cls Av G S₀ ρ σ S H)(p:pW K cls W σ S H Q ((m ρ).eD f))
  (k:∀ r v S1 H1,SR K cls Av G S₀ ρ σ S1 H1->aZ S H S1 H1->jr K H S1 H1 r v->pW K cls W σ S1 H1 Q (f r)->Q' v H1):te σ H Q':=by
 refine h Av G S₀ ρ σ S H Q' I ?_
 cases e:m ρ with
 |ok r=>rw[e]at p;exact fun v S1 H1 w r1=>k r v S1 H1 (I.grow w) w r1 (p.back w)
 |exc c fs=>rw[e]at p;exact p
 |bad=>rw[e]at p;exact p
theorem JE.goS{m:ah->OE}{f:RV->OS}(h:JE K cls W te m)(I:SR K cls Av G S₀ ρ σ S H)(p:fW K cls W Av G S₀ S D ((m ρ).bU ρ f))
  (k:∀ r v S1 H1,SR K cls Av G S₀ ρ σ S1 H1->aZ S H S1 H1->jr K H S1 H1 r v->fW K cls W Av G S₀ S1 D (f r)->Q' v H1):te σ H Q':=by
 refine h Av G S₀ ρ σ S H Q' I ?_
 cases e:m ρ with
 |ok r=>rw[e]at p;exact fun v S1 H1 w r1=>k r v S1 H1 (I.grow w) w r1 (p.back w.s)
 |exc c fs=>rw[e]at p;exact fun a C S' H' w x=>p a C σ S' H' (I.grow w) w.s x
 |bad=>rw[e]at p;exact p
theorem JT.go{m:ah->OT}{f:Bool->OE}{Q':Bool->Hp->Prop}(h:JT K cls W te m)(I:SR K cls Av G S₀ ρ σ S H)(p:jz K cls W σ S H Q ((m ρ).bind f))
  (k:∀ b S1 H1,SR K cls Av G S₀ ρ σ S1 H1->aZ S H S1 H1->jz K cls W σ S1 H1 Q (f b)->Q' b H1):te σ H Q':=by
 refine h Av G S₀ ρ σ S H Q' I ?_
 cases e:m ρ with
 |ok r=>rw[e]at p;exact fun S1 H1 w=>k r S1 H1 (I.grow w) w (p.back w)
 |exc c fs=>rw[e]at p;exact p
 |bad=>rw[e]at p;exact p
theorem JT.goT{m:ah->OT}{f:Bool->OT}{Q Q':Bool->Hp->Prop}(h:JT K cls W te m)(I:SR K cls Av G S₀ ρ σ S H)(p:pW K cls W σ S H Q ((m ρ).eD f))
  (k:∀ b S1 H1,SR K cls Av G S₀ ρ σ S1 H1->aZ S H S1 H1->pW K cls W σ S1 H1 Q (f b)->Q' b H1):te σ H Q':=by
 refine h Av G S₀ ρ σ S H Q' I ?_
 cases e:m ρ with
 |ok r=>rw[e]at p;exact fun S1 H1 w=>k r S1 H1 (I.grow w) w (p.back w)
 |exc c fs=>rw[e]at p;exact p
 |bad=>rw[e]at p;exact p
theorem JT.goS{m:ah->OT}{f:Bool->OS}{Q':Bool->Hp->Prop}(h:JT K cls W te m)(I:SR K cls Av G S₀ ρ σ S H)(p:fW K cls W Av G S₀ S D ((m ρ).bU ρ f))
  (k:∀ b S1 H1,SR K cls Av G S₀ ρ σ S1 H1->aZ S H S1 H1->fW K cls W Av G S₀ S1 D (f b)->Q' b H1):te σ H Q':=by
 refine h Av G S₀ ρ σ S H Q' I ?_
 cases e:m ρ with
 |ok r=>rw[e]at p;exact fun S1 H1 w=>k r S1 H1 (I.grow w) w (p.back w.s)
 |exc c fs=>rw[e]at p;exact fun a C S' H' w x=>p a C σ S' H' (I.grow w) w.s x
 |bad=>rw[e]at p;exact p
theorem JA.go{m:ah->OA}{f:List PV->OE}{Q':List V->Hp->Prop}(h:JA K cls W te m)(I:SR K cls Av G S₀ ρ σ S H)(p:jz K cls W σ S H Q ((m ρ).bind f))
  (k:∀ xs vs S1 H1,SR K cls Av G S₀ ρ σ S1 H1->aZ S H S1 H1->bA K S1 xs vs->jz K cls W σ S1 H1 Q (f xs)->Q' vs H1):te σ H Q':=by
 refine h Av G S₀ ρ σ S H Q' I ?_
 cases e:m ρ with
 |ok r=>rw[e]at p;exact fun v S1 H1 w r1=>k r v S1 H1 (I.grow w) w r1 (p.back w)
 |exc c fs=>rw[e]at p;exact p
 |bad=>rw[e]at p;exact p
theorem JA.goA{m:ah->OA}{f:List PV->OA}{Q Q':List V->Hp->Prop}(h:JA K cls W te m)(I:SR K cls Av G S₀ ρ σ S H)(p:r6 K cls W σ S H Q ((m ρ).ee f))
  (k:∀ xs vs S1 H1,SR K cls Av G S₀ ρ σ S1 H1->aZ S H S1 H1->bA K S1 xs vs->r6 K cls W σ S1 H1 Q (f xs)->Q' vs H1):te σ H Q':=by
 refine h Av G S₀ ρ σ S H Q' I ?_
 cases e:m ρ with
 |ok r=>rw[e]at p;exact fun v S1 H1 w r1=>k r v S1 H1 (I.grow w) w r1 (p.back w)
 |exc c fs=>rw[e]at p;exact p
 |bad=>rw[e]at p;exact p
theorem ae:JE K cls W (vd i) (ai i):=by
 intro Av G S₀ ρ σ S H Q I p;unfold ai at p;split at p
 . rename_i x e;obtain⟨v,e1,r⟩:=I.good i _ e
   exact⟨v,e1,p v S H (aZ.refl I.sh) r⟩
 . rename_i xs e;obtain⟨v,e1,a,vs,e2,_,_,h3,h4⟩:=I.good i _ e
   exact⟨v,e1,p v S H (aZ.refl I.sh) ⟨a,vs,e2,SqL.new h3,h4⟩⟩
 . exact p.elim
theorem Bn(h:∀ S,Rep K S x v):JE K cls W (tC v) (mC x):=fun Av G S₀ ρ σ S H Q I p=>p v S H (aZ.refl I.sh) (h S)
theorem aj:JE K cls W (tC (.int n)) (mC (.int n)):=Bn fun _=>by unfold Rep;rfl
theorem pO:JE K cls W (tC (.bl n)) (mC (.bl n)):=Bn fun _=>by unfold Rep;rfl
theorem jZ:JE K cls W (tC .non) (mC .non):=Bn fun _=>by unfold Rep;rfl
theorem aW:JE K cls W (tC (.str n)) (mC (.str n)):=Bn fun _=>by unfold Rep;rfl
noncomputable def JR(K:PySem.W.Frag)(r:R2)(g:PV->PV->Option RV):Prop:=∀ S H x y v u rr Q,aD S H->RdV K S H x v->RdV K S H y u->g x y=some rr ->
 (∀ z S' H',aZ S H S' H'->jr K H S' H' rr z->Q z H')->r v u H Q
theorem ao{g:PV->PV->Option RV}{ma mb:ah->OE}(hr:JR K r g)(ha:JE K cls W ta ma)(hb:JE K cls W tb mb):JE K cls W (tOp r ta tb) (mOp g ma mb):=by
 intro Av G S₀ ρ σ S H Q I p
 refine ha.go I p fun a v S1 H1 I1 w1 r1 p1=>hb.go I1 p1 fun b u S2 H2 I2 w2 r2 p2=>?_
 cases e:g a.pv b.pv with
 |none=>rw[e]at p2;exact p2.elim
 | some rr=>
   rw[e]at p2;exact hr S2 H2 a.pv b.pv v u rr Q I2.sh ((r1.rd I1.sh).mono w2.s w2.g) (r2.rd I2.sh) e p2
theorem de(h:RdV K S H (.int i) v):v=.int i:=by unfold RdV Rep at h;exact h
theorem jA(h:RdV K S H (.bl i) v):v=.bl i:=by unfold RdV Rep at h;exact h
theorem gV(h:RdV K S H (.str i) v):v=.str i:=by unfold RdV Rep at h;exact h
theorem gA(h:RdV K S H .non v):v=.non:=by unfold RdV Rep at h;exact h
theorem js(h:RdV K S H (.lst xs) v):∃ p vs,v=.ref p /\ SqL K H p vs /\ bA K S xs vs:=h
theorem fM(h:RdV K S H (.tup xs) v):∃ p vs,v=.ref p /\ SqT K S p vs /\ bA K S xs vs:=by unfold RdV Rep at h;exact h
theorem zm{C:Int->Int->Prop}{c:Int->Int->Bool}{f:Int->Int->PV}{fv:Int->Int->V}(hc:∀ i j,c i j=true->C i j)(hf:∀ S i j,Rep K S (f i j) (fv i j)):JR K (rI C fv) (gI c f):=by
 intro S H x y v u rr Q I hx hy e k;unfold gI at e;split at e
 . rename_i i j;split at e
   . rename_i hcc;cases e
     exact⟨i,j,de hx,de hy,hc i j hcc,k _ S H (aZ.refl I) (hf S i j)⟩
   . cases e
 . cases e
theorem pq{f:Int->Int->PV}{fv:Int->Int->V}(hf:∀ S i j,Rep K S (f i j) (fv i j)):JR K (rI0 fv) (gI (fun _ _=>true) f):=by
 intro S H x y v u rr Q I hx hy e k;unfold gI at e;split at e
 . rename_i i j;simp only[if_true]at e;cases e
   exact⟨i,j,de hx,de hy,k _ S H (aZ.refl I) (hf S i j)⟩
 . cases e
theorem cX:JR K (rI0 fun i j=>.int (i+j)) eT:=pq fun _ _ _=>by unfold Rep;rfl
theorem vS:JR K (rI0 fun i j=>.int (i - j)) zR:=pq fun _ _ _=>by unfold Rep;rfl
theorem pB:JR K (rI zw fun i j=>.int (i*j)) sU:=zm (fun i j h=>by simpa [zw,Bool.or_eq_true,Bool.and_eq_true,decide_eq_true_eq]using h) fun _ _ _=>by unfold Rep;rfl
theorem fB:JR K (rI CO fun i j=>.int (i/j)) gM:=zm (fun i j h=>by simpa [CO,Bool.and_eq_true,decide_eq_true_eq]using h) fun _ _ _=>by unfold Rep;rfl
theorem b6:JR K (rI (fun _ j=>0<j) fun i j=>.int (i%j)) bX:=zm (fun i j h=>by simpa using h) fun _ _ _=>by unfold Rep;rfl
theorem rq:JR K (rI0 fun i j=>.bl (decide (i<j))) gLt:=pq fun _ _ _=>by unfold Rep;rfl
theorem rV:JR K (rI0 fun i j=>.bl (decide (i<=j))) gLe:=pq fun _ _ _=>by unfold Rep;rfl
theorem uO:JR K (rI0 fun i j=>.bl (decide (j<i))) gGt:=pq fun _ _ _=>by unfold Rep;rfl
theorem yI:JR K (rI0 fun i j=>.bl (decide (j<=i))) gGe:=pq fun _ _ _=>by unfold Rep;rfl
theorem z9(hx:RdV K S H x v)(hy:RdV K S H y u)(e:eqS x y=some b):D9 v u=true /\ decide (v=u)=b:=by
 unfold eqS at e;split at e
 all_goals first
  |(have h1:=gA hx;subst h1;have h2:=gA hy;subst h2;cases e;exact⟨rfl,by simp⟩)
  |(have h1:=gA hx;subst h1;have h2:=de hy;subst h2;cases e;exact⟨rfl,by simp⟩)
  |(have h1:=de hx;subst h1;have h2:=gA hy;subst h2;cases e;exact⟨rfl,by simp⟩)
  |(have h1:=gA hx;subst h1;have h2:=jA hy;subst h2;cases e;exact⟨rfl,by simp⟩)
  |(have h1:=jA hx;subst h1;have h2:=gA hy;subst h2;cases e;exact⟨rfl,by simp⟩)
  |(have h1:=gA hx;subst h1;have h2:=gV hy;subst h2;cases e;exact⟨rfl,by simp⟩)
  |(have h1:=gV hx;subst h1;have h2:=gA hy;subst h2;cases e;exact⟨rfl,by simp⟩)
  |(have h1:=de hx;subst h1;have h2:=de hy;subst h2;cases e;exact⟨rfl,by simp⟩)
  |(have h1:=jA hx;subst h1;have h2:=jA hy;subst h2;cases e;exact⟨rfl,by simp⟩)
  |(have h1:=gV hx;subst h1;have h2:=gV hy;subst h2;cases e;exact⟨rfl,by simp⟩)
  |(have h1:=de hx;subst h1;have h2:=gV hy;subst h2;cases e;exact⟨rfl,by simp⟩)
  |(have h1:=gV hx;subst h1;have h2:=de hy;subst h2;cases e;exact⟨rfl,by simp⟩)
  |(have h1:=jA hx;subst h1;have h2:=gV hy;subst h2;cases e;exact⟨rfl,by simp⟩)
  |(have h1:=gV hx;subst h1;have h2:=jA hy;subst h2;cases e;exact⟨rfl,by simp⟩)
  |cases e
theorem kq:JR K rEq gEq:=by
 intro S H x y v u rr Q I hx hy e k;obtain⟨b,e1,e2⟩:=Option.map_eq_some_iff.mp e;obtain⟨h1,h2⟩:=z9 hx hy e1
 refine⟨h1,k _ S H (aZ.refl I) ?_⟩
 subst e2;show Rep K S _ _;unfold Rep;rw[h2]
theorem Cu:JR K rNe gNe:=by
 intro S H x y v u rr Q I hx hy e k;obtain⟨b,e1,e2⟩:=Option.map_eq_some_iff.mp e;obtain⟨h1,h2⟩:=z9 hx hy e1
 refine⟨h1,k _ S H (aZ.refl I) ?_⟩
 subst e2;show Rep K S _ _;unfold Rep;rw[h2]
end
section
variable{K:PySem.W.Frag}{cls:String->Option Addr}{W:XW}{Av G S₀ S S' H H' B B':Hp}{ρ:ah}{σ:St}{Q:VK}
theorem jr.share(h:jr K H S1 H1 r v)(w:aZ S H S1 H1)(e:jD r=some x):∃ S2,aZ S H S2 H1 /\ aD S1 S2 /\ Rep K S2 x v:=by
 cases r with
 |sh y=>cases e;exact⟨S1,w,aD.refl _,h⟩
 |al xs=>cases e
 | fr xs=>
   cases e;obtain⟨p,vs,rfl,hB,hS,hH,hr⟩:=h
   refine⟨upd S1 p (.lst vs),⟨w.s.trans (aD.new hS),w.g,fun b u z=>?_,fun b z=>?_⟩,aD.new hS,?_⟩
   . by_cases e:b=p
     . subst e;rw[bE]at z;cases z;exact hH
     . rw[bY e]at z;exact w.sh b u z
   . by_cases e:b=p
     . subst e;exact .inr hB
     . rw[bY e]at z;exact w.new b z
   . unfold Rep
     exact⟨p,vs,rfl,SqL.new bE,hr.mono (aD.new hS)⟩
theorem av:JA K cls W kb ax:=fun Av G S₀ ρ σ S H Q I p=>p [] S H (aZ.refl I.sh) .nil
theorem af{me:ah->OE}{mr:ah->OA}(he:JE K cls W te me)(ht:JA K cls W t mr):JA K cls W (fL te t) (ag me mr):=by
 intro Av G S₀ ρ σ S H Q I p;refine he Av G S₀ ρ σ S H _ I ?_;unfold ag at p
 cases e:me ρ with
 |exc c fs=>rw[e]at p;exact p
 |bad=>rw[e]at p;exact p
 | ok r=>
   rw[e]at p;intro v S1 H1 w1 r1;simp only[OE.ee]at p
   cases es:jD r with
   |none=>rw[es]at p;exact p.elim
   | some x=>
     rw[es]at p;obtain⟨S2,w2,s2,rx⟩:=r1.share w1 es
     refine ht.goA (I.grow w2) (p.back w2) fun xs vs S3 H3 I3 w3 r3 p3=>?_
     exact p3 (v ::vs) S3 H3 (aZ.refl I3.sh) (.cons (Rep.mono w3.s rx) r3)
theorem vE:lim=sizeLine:=by decide
theorem bW{ma:ah->OA}(h:JA K cls W t ma):JE K cls W (Bv t) (dY ma):=by
 intro Av G S₀ ρ σ S H Q I p
 refine h.go I p fun xs vs S1 H1 I1 w1 r1 p1=>?_
 split at p1
 . rename_i hl
   refine⟨by rw[r1.length];exact hl,fun q hq=>p1 (.ref q) S1 _ (aZ.heap I1.sh hq) ⟨q,vs,rfl,hq,I1.sh.free hq,bE,r1⟩⟩
 . exact p1.elim
theorem aV{ma:ah->OA}(h:JA K cls W t ma):JE K cls W (CZ t) (bC ma):=by
 intro Av G S₀ ρ σ S H Q I p
 refine h.go I p fun xs vs S1 H1 I1 w1 r1 p1=>?_
 split at p1
 . rename_i hl
   refine⟨by rw[r1.length];exact hl,fun q hq=>p1 (.ref q) _ _ (aZ.both I1.sh hq) ?_⟩
   show Rep K _ _ _;unfold Rep
   exact⟨q,vs,rfl,SqT.new bE,r1.mono (aZ.both (o:=.tup vs) I1.sh hq).s⟩
 . exact p1.elim
noncomputable def ET(K:PySem.W.Frag)(cls:String->Option Addr)(S H:Hp)(Q:VK)(E:XK):OE->Prop
 |.ok r=>∀ v S' H',aZ S H S' H'->jr K H S' H' r v->Q v H'
 |.exc c fs=>∀ a C S' H',aZ S H S' H'->kC K cls S' H' c fs a C->E (.ref C) (some a) H'
 |.bad=>False
noncomputable def spP(K:PySem.W.Frag)(cls:String->Option Addr)(f:List PV->OE):Sp:=fun vs H Q E=>∃ S xs,aD S H /\ bA K S xs vs /\ ET K cls S H Q E (f xs)
theorem aE{ma:ah->OA}{f:List PV->OE}(h:JA K cls W t ma):JE K cls W (ph (spP K cls f) [] W t) (aH f ma):=by
 intro Av G S₀ ρ σ S H Q I p
 refine h.go I p fun xs vs S1 H1 I1 w1 r1 p1=>?_
 show spP K cls f (vs++[]) H1 Q _;rw[List.append_nil]
 refine⟨S1,xs,I1.sh,r1,?_⟩
 cases e:f xs with
 |ok r=>rw[e]at p1;exact p1
 |exc c fs=>rw[e]at p1;exact p1
 |bad=>rw[e]at p1;exact p1
noncomputable def JU(K:PySem.W.Frag)(r:List V->Hp->VK->Prop)(g:PV->Option RV):Prop:=∀ S H x v rr Q,aD S H->RdV K S H x v->g x=some rr ->
 (∀ z S' H',aZ S H S' H'->jr K H S' H' rr z->Q z H')->r [v] H Q
theorem cg{r:List V->Hp->VK->Prop}{g:PV->Option RV}{ma:ah->OE}(hr:JU K r g)(ha:JE K cls W ta ma):JE K cls W (tCB r (fL ta kb)) (mUn g ma):=by
 intro Av G S₀ ρ σ S H Q I p
 refine ha.go I p fun a v S1 H1 I1 w1 r1 p1=>?_
 show r [v] H1 Q
 cases e:g a.pv with
 |none=>rw[e]at p1;exact p1.elim
 |some rr=>rw[e]at p1;exact hr S1 H1 a.pv v rr Q I1.sh (r1.rd I1.sh) e p1
theorem pI{r:V->Hp->VK->Prop}{g:PV->Option RV}{ma:ah->OE}(hr:JU K (fun vs H Q=>∃ v,vs=[v] /\ r v H Q) g)(ha:JE K cls W ta ma):JE K cls W (tUn r ta) (mUn g ma):=by
 intro Av G S₀ ρ σ S H Q I p
 refine ha.go I p fun a v S1 H1 I1 w1 r1 p1=>?_
 cases e:g a.pv with
 |none=>rw[e]at p1;exact p1.elim
 | some rr=>
   rw[e]at p1;obtain⟨u,e1,h⟩:=hr S1 H1 a.pv v rr Q I1.sh (r1.rd I1.sh) e p1;cases e1;exact h
theorem lx:JU K (fun vs H Q=>∃ v,vs=[v] /\ rU (fun i=>.int (-i)) v H Q) j2:=by
 intro S H x v rr Q I hx e k
 cases x with
 |int i=>cases e;exact⟨v,rfl,i,de hx,k _ S H (aZ.refl I) (by show Rep K S _ _;unfold Rep;rfl)⟩
 |_=>cases e
theorem eh:JU K (fun xs H Q=>∃ p ys,xs=[.ref p] /\ (SqL K H p ys \/ SqT K H p ys) /\ Q (.int ys.length) H) fq:=by
 intro S H x v rr Q I hx e k
 cases x with
 | lst xs=>
   cases e;obtain⟨p,vs,rfl,hq,r⟩:=js hx
   exact⟨p,vs,rfl,.inl hq,k _ S H (aZ.refl I) (by show Rep K S _ _;unfold Rep;rw[r.length])⟩
 | tup xs=>
   cases e;obtain⟨p,vs,rfl,hq,r⟩:=fM hx
   exact⟨p,vs,rfl,.inr (aD.tup I hq),k _ S H (aZ.refl I) (by show Rep K S _ _;unfold Rep;rw[r.length])⟩
 |_=>cases e
theorem Dx{α:Type}(xs:List α)(i:Int):atP xs i=L2.atI xs i:=rfl
theorem bA.atI(h:bA K S xs vs)(e:atP xs i=some x):∃ v,L2.atI vs i=some v /\ Rep K S x v:=by
 rw[Dx]at e
 unfold L2.atI at e ⊢
 rw[h.length]
 cases q:ixN xs.length i with
 |none=>rw[q]at e;cases e
 |some j=>rw[q]at e;exact h.get e
theorem cN:JR K (BI K) eZ:=by
 intro S H x y v u rr Q I hx hy e k;unfold eZ at e;split at e
 . rename_i xs i;obtain⟨z,e1,e2⟩:=Option.map_eq_some_iff.mp e;obtain⟨p,vs,rfl,hq,r⟩:=js hx;obtain⟨w,e3,rw'⟩:=r.atI e1;subst e2
   exact⟨p,vs,i,w,rfl,de hy,hq,e3,k _ S H (aZ.refl I) rw'⟩
 . cases e
theorem aA:JR K (Fv K) aN:=by
 intro S H x y v u rr Q I hx hy e k;unfold aN at e;split at e
 . rename_i xs i;obtain⟨z,e1,e2⟩:=Option.map_eq_some_iff.mp e;obtain⟨p,vs,rfl,hq,r⟩:=fM hx;obtain⟨w,e3,rw'⟩:=r.atI e1;subst e2
   exact⟨p,vs,i,w,rfl,de hy,aD.tup I hq,e3,k _ S H (aZ.refl I) rw'⟩
 . cases e
end
section
variable{K:PySem.W.Frag}{cls:String->Option Addr}{W:XW}{Av G S₀ S S' H H' B B':Hp}{ρ:ah}{σ:St}{Q:VK}
theorem xZ{xs:List PV}{ns:List Int}(h:pj xs=some ns):xs=ns.map .int:=by
 induction xs generalizing ns with
 |nil=>cases h;rfl
 | cons x xs ih=>
   cases x with
   | int i=>
     obtain⟨ms,e1,e2⟩:=Option.map_eq_some_iff.mp h;subst e2;rw[ih e1];rfl
   |_=>cases h
theorem Dy{T:String}{x:PV}{v:V}{b:Bool}(s:aD S H)(hx:RdV K S H x v)(e:isP T x=some b):IsV K T v H b:=by
 cases x with
 | int i=>
   have:=de hx;subst this;simp only[isP]at e;split at e
   . cases e;exact .inl ⟨by assumption,rfl⟩
   . split at e
     . rename_i h;cases e;rcases h with h|h|h|h
       . exact .inr (.inl ⟨h,rfl⟩)
       . exact .inr (.inr (.inl ⟨h,rfl⟩))
       . exact .inr (.inr (.inr (.inl ⟨h,rfl⟩)))
       . exact .inr (.inr (.inr (.inr ⟨h,rfl⟩)))
     . cases e
 | bl i=>
   have:=jA hx;subst this;simp only[isP]at e;split at e
   . rename_i h;cases e;rcases h with h|h
     . exact .inl ⟨h,rfl⟩
     . exact .inr (.inl ⟨h,rfl⟩)
   . split at e
     . rename_i h;cases e;rcases h with h|h|h
       . exact .inr (.inr (.inl ⟨h,rfl⟩))
       . exact .inr (.inr (.inr (.inl ⟨h,rfl⟩)))
       . exact .inr (.inr (.inr (.inr ⟨h,rfl⟩)))
     . cases e
 | non=>
   have:=gA hx;subst this;simp only[isP]at e;split at e
   . rename_i h;cases e;rcases h with h|h|h|h|h
     . exact .inl ⟨h,rfl⟩
     . exact .inr (.inl ⟨h,rfl⟩)
     . exact .inr (.inr (.inl ⟨h,rfl⟩))
     . exact .inr (.inr (.inr (.inl ⟨h,rfl⟩)))
     . exact .inr (.inr (.inr (.inr ⟨h,rfl⟩)))
   . cases e
 | str i=>
   have:=gV hx;subst this;simp only[isP]at e;split at e
   . cases e;exact .inr (.inr (.inr (.inr ⟨by assumption,rfl⟩)))
   . split at e
     . rename_i h;cases e;rcases h with h|h|h|h
       . exact .inl ⟨h,rfl⟩
       . exact .inr (.inl ⟨h,rfl⟩)
       . exact .inr (.inr (.inl ⟨h,rfl⟩))
       . exact .inr (.inr (.inr (.inl ⟨h,rfl⟩)))
     . cases e
 | lst xs=>
   obtain⟨p,vs,rfl,hq,r⟩:=js hx;refine .inl ⟨⟨vs,hq⟩,?_⟩;simp only[isP]at e;split at e
   . cases e;exact .inr (.inr (.inl ⟨by assumption,rfl⟩))
   . split at e
     . rename_i h;cases e;rcases h with h|h|h|h
       . exact .inl ⟨h,rfl⟩
       . exact .inr (.inl ⟨h,rfl⟩)
       . exact .inr (.inr (.inr (.inl ⟨h,rfl⟩)))
       . exact .inr (.inr (.inr (.inr ⟨h,rfl⟩)))
     . cases e
 | tup xs=>
   obtain⟨p,vs,rfl,hq,r⟩:=fM hx;refine .inr ⟨⟨vs,aD.tup s hq⟩,?_⟩;simp only[isP]at e;split at e
   . cases e;exact .inr (.inr (.inr (.inl ⟨by assumption,rfl⟩)))
   . split at e
     . rename_i h;cases e;rcases h with h|h|h|h
       . exact .inl ⟨h,rfl⟩
       . exact .inr (.inl ⟨h,rfl⟩)
       . exact .inr (.inr (.inl ⟨h,rfl⟩))
       . exact .inr (.inr (.inr (.inr ⟨h,rfl⟩)))
     . cases e
theorem pC{T:String}{ta:TE}{ma:ah->OE}(ha:JE K cls W ta ma):
  JE K cls W (tCB (fun xs H Q=>∃ x T b,xs=[x,.ty T] /\ IsV K T x H b /\ Q (.bl b) H) (fL ta (fL (tC (.ty T)) kb))) (mIs T ma):=by
 intro Av G S₀ ρ σ S H Q I p
 refine ha.go I p fun a v S1 H1 I1 w1 r1 p1=>?_
 show ∃ x T' b,[v,V.ty T]=[x,V.ty T'] /\ _
 dsimp only at p1
 cases e:isP T a.pv with
 |none=>rw[e]at p1;exact p1.elim
 | some b=>
   rw[e]at p1
   exact⟨v,T,b,rfl,Dy I1.sh (r1.rd I1.sh) e,p1 _ S1 H1 (aZ.refl I1.sh) (by show Rep K S1 _ _;unfold Rep;rfl)⟩
end
section
variable{K:PySem.W.Frag}{cls:String->Option Addr}{W:XW}{Av G S₀ S S' H H' B B':Hp}{ρ:ah}{σ:St}{Q:VK}
theorem ou{xs:List PV}{vs:List V}(h:bA K S xs vs):vs.isEmpty=xs.isEmpty:=by
 cases xs with
 |nil=>rw[h.nil_inv];rfl
 |cons x xs=>obtain⟨v,r,rfl,_⟩:=h.cons_inv;rfl
theorem Ba(s:aD S H)(hx:RdV K S H x v)(e:tm x=some b):xy K v H b:=by
 cases x with
 |non=>have:=gA hx;subst this;cases e;rfl
 |bl c=>have:=jA hx;subst this;cases e;rfl
 |int i=>have:=de hx;subst this;cases e;rfl
 |str z=>cases e
 | lst xs=>
   obtain⟨p,vs,rfl,hq,r⟩:=js hx;cases e;exact .inl ⟨vs,hq,by rw[ou r]⟩
 | tup xs=>
   obtain⟨p,vs,rfl,hq,r⟩:=fM hx;cases e;exact .inr (.inl ⟨vs,aD.tup s hq,by rw[ou r]⟩)
theorem ck{ma:ah->OE}(ha:JE K cls W ta ma):JT K cls W (fun σ H Q=>ta σ H fun x H'=>∃ k,xy K x H' k /\ Q k H') (cx ma):=by
 intro Av G S₀ ρ σ S H Q I p
 refine ha.goT I p fun r v S1 H1 I1 w1 r1 p1=>?_
 cases e:tm r.pv with
 |none=>rw[e]at p1;exact p1.elim
 |some b=>rw[e]at p1;exact⟨b,Ba I1.sh (r1.rd I1.sh) e,p1 S1 H1 (aZ.refl I1.sh)⟩
theorem vg{r:RV}(h:r.pv=.bl b)(r1:jr K H S1 H1 r v)(s:aD S1 H1):v=.bl b:=by
 have:=r1.rd s;rw[h]at this;exact jA this
theorem aF{ma:ah->OE}(ha:JE K cls W ta ma):JT K cls W (rR ta) (aI ma):=by
 intro Av G S₀ ρ σ S H Q I p
 refine ha.goT I p fun r v S1 H1 I1 w1 r1 p1=>?_
 cases e:r.pv with
 |bl b=>rw[e]at p1;exact⟨b,vg e r1 I1.sh,p1 S1 H1 (aZ.refl I1.sh)⟩
 |_=>rw[e]at p1;exact p1.elim
theorem iX{ma:ah->OT}(ha:JT K cls W ta ma):JT K cls W (D8 ta) (iR ma):=by
 intro Av G S₀ ρ σ S H Q I p
 exact ha.goT I p fun b S1 H1 I1 w1 p1=>p1 S1 H1 (aZ.refl I1.sh)
theorem ia{ma mb:ah->OT}(ha:JT K cls W ta ma)(hb:JT K cls W tb mb):JT K cls W (Di ta tb) (dB ma mb):=by
 intro Av G S₀ ρ σ S H Q I p
 refine ha.goT I p fun b S1 H1 I1 w1 p1=>?_
 cases b with
 |true=>exact uB (hb Av G S₀ ρ σ S1 H1 Q I1 p1)
 |false=>exact uC (p1 S1 H1 (aZ.refl I1.sh))
theorem rS{ma mb:ah->OT}(ha:JT K cls W ta ma)(hb:JT K cls W tb mb):JT K cls W (tOr ta tb) (jj ma mb):=by
 intro Av G S₀ ρ σ S H Q I p
 refine ha.goT I p fun b S1 H1 I1 w1 p1=>?_
 cases b with
 |false=>exact uC (hb Av G S₀ ρ σ S1 H1 Q I1 p1)
 |true=>exact uB (p1 S1 H1 (aZ.refl I1.sh))
theorem i3:jr K B S H (.sh (.bl b)) (.bl b):=by show Rep K S _ _;unfold Rep;rfl
theorem yz{ma mb:ah->OE}(ha:JE K cls W ta ma)(hb:JE K cls W tb mb):JE K cls W (yP ta tb) (xh ma mb):=by
 intro Av G S₀ ρ σ S H Q I p
 refine ha.go I p fun r v S1 H1 I1 w1 r1 p1=>?_
 cases e:r.pv with
 | bl b=>
   rw[e]at p1
   refine⟨b,vg e r1 I1.sh,?_⟩
   cases b with
   |true=>exact uB (hb Av G S₀ ρ σ S1 H1 Q I1 p1)
   |false=>exact uC (p1 _ S1 H1 (aZ.refl I1.sh) i3)
 |_=>rw[e]at p1;exact p1.elim
theorem mz{mc:ah->OT}{ma mb:ah->OE}(hc:JT K cls W tc mc)(ha:JE K cls W ta ma)(hb:JE K cls W tb mb):JE K cls W (tIf tc ta tb) (i5 mc ma mb):=by
 intro Av G S₀ ρ σ S H Q I p
 refine hc.go I p fun b S1 H1 I1 w1 p1=>?_
 cases b with
 |true=>exact uB (ha Av G S₀ ρ σ S1 H1 Q I1 p1)
 |false=>exact uC (hb Av G S₀ ρ σ S1 H1 Q I1 p1)
theorem u3{g g':PV->PV->Option RV}{ma mb mc:ah->OE}(hr:JR K r g)(hr':JR K r' g')(ha:JE K cls W ta ma)(hb:JE K cls W tb mb)(hc:JE K cls W tc mc):
  JE K cls W (vA r r' ta tb tc) (sW g g' ma mb mc):=by
 intro Av G S₀ ρ σ S H Q I p
 refine ha.go I p fun a v S1 H1 I1 w1 r1 p1=>hb.go I1 p1 fun b u S2 H2 I2 w2 r2 p2=>?_
 cases e:g a.pv b.pv with
 |none=>rw[e]at p2;exact p2.elim
 | some rr=>
   rw[e]at p2
   refine hr S2 H2 a.pv b.pv v u rr _ I2.sh ((r1.rd I1.sh).mono w2.s w2.g) (r2.rd I2.sh) e fun z S3 H3 w3 r3=>?_
   have I3:=I2.grow w3;simp only[oE,OE.bind]at p2
   cases e3:rr.pv with
   | bl k=>
     rw[e3]at p2;have hz:=vg e3 r3 I3.sh
     refine⟨k,hz,?_⟩
     cases k with
     |false=>exact uC (p2 _ S3 H3 w3 i3)
     | true=>
       refine uB (hc.go I3 (p2.back w3) fun c y S4 H4 I4 w4 r4 p4=>?_)
       cases e4:g' b.pv c.pv with
       |none=>rw[e4]at p4;exact p4.elim
       |some r'=>rw[e4]at p4;exact hr' S4 H4 b.pv c.pv u y r' Q I4.sh (((r2.rd I2.sh).mono w3.s w3.g).mono w4.s w4.g) (r4.rd I4.sh) e4 p4
   |_=>rw[e3]at p2;exact p2.elim
theorem ay{ma mb:ah->OS}(ha:JS K cls W ta ma)(hb:JS K cls W tb mb):JS K cls W (Ek ta tb) (aR ma mb):=by
 intro Av G S₀ ρ σ S H D I p;refine ha Av G S₀ ρ σ S H _ I ?_;unfold aR at p
 cases e:ma ρ with
 |nx ρ'=>rw[e]at p;exact fun σ' S' H' I' s'=>hb Av G S₀ ρ' σ' S' H' D I' (p.back s')
 |bk ρ'=>rw[e]at p;exact p
 |ct ρ'=>rw[e]at p;exact p
 |rt ρ' r=>rw[e]at p;exact p
 |exc ρ' c fs=>rw[e]at p;exact p
 |bad=>rw[e]at p;exact p
theorem aK:JS K cls W zF aY:=fun Av G S₀ ρ σ S H D I p=>p σ S H I (aD.refl _)
theorem aQ{me:ah->OE}(he:JE K cls W te me):JS K cls W (tD te (iw i)) (ba i me):=by
 intro Av G S₀ ρ σ S H D I p
 refine he.goS I p fun r v S1 H1 I1 w1 r1 p1=>?_
 show D.nx (σ.set i (some v)) H1
 cases r with
 |sh x=>exact p1 _ S1 H1 (I1.wN r1) (aD.refl _)
 |fr xs=>exact p1 _ S1 H1 (I.EZ w1 r1) (aD.refl _)
 |al xs=>exact p1.elim
theorem bh{mc:ah->OT}{ma mb:ah->OS}(hc:JT K cls W tc mc)(ha:JS K cls W ta ma)(hb:JS K cls W tb mb):JS K cls W (Eo tc ta tb) (bj mc ma mb):=by
 intro Av G S₀ ρ σ S H D I p
 refine hc.goS I p fun b S1 H1 I1 w1 p1=>?_
 cases b with
 |true=>exact uB (ha Av G S₀ ρ σ S1 H1 D I1 p1)
 |false=>exact uC (hb Av G S₀ ρ σ S1 H1 D I1 p1)
theorem aT{me:ah->OE}(he:JE K cls W te me):JS K cls W (xS te) (bV me):=by
 intro Av G S₀ ρ σ S H D I p
 refine he.goS I p fun r v S1 H1 I1 w1 r1 p1=>?_
 cases r with
 |sh x=>exact p1 v σ S1 H1 I1 (aD.refl _) r1
 |fr xs=>exact p1 v σ S1 H1 I1 (aD.refl _) (r1.back I.gh)
 |al xs=>exact p1.elim
theorem eX:JS K cls W (xS (vd i)) (fA i):=by
 intro Av G S₀ ρ σ S H D I p;unfold fA at p;split at p
 . rename_i x e;obtain⟨v,e1,r⟩:=I.good i _ e
   exact⟨v,e1,p v σ S H I (aD.refl _) r⟩
 . rename_i xs e;obtain⟨v,e1,a,vs,e2,h1,h2,h3,h4⟩:=I.good i _ e
   exact⟨v,e1,p v σ S H I.drop (aD.refl _) ⟨a,vs,e2,h1,h2,h3,h4⟩⟩
 . exact p.elim
theorem o4{me:ah->OE}(he:JE K cls W te me):JS K cls W (qU (tBM K "list" tL (vd i) (fL te kb))) (lZ i me):=by
 intro Av G S₀ ρ σ S H D I p;unfold lZ at p;split at p
 . rename_i xs e;obtain⟨v,e1,a,vs,rfl,h1,h2,h3,h4⟩:=I.good i _ e
   refine⟨_,e1,.inl ⟨rfl,_,SqL.new h3⟩,?_⟩
   refine he Av G S₀ ρ σ S H _ I ?_
   cases em:me ρ with
   |exc c fs=>rw[em]at p;exact fun a C S' H' w x=>p a C σ S' H' (I.grow w) w.s x
   |bad=>rw[em]at p;exact p
   | ok r=>
     rw[em]at p;intro u S1 H1 w1 r1;simp only[OE.bU]at p
     cases es:jD r with
     |none=>rw[es]at p;exact p.elim
     | some y=>
       rw[es]at p
       dsimp only at p
       split at p
       . rename_i hl;obtain⟨S2,w2,s2,rx⟩:=r1.share w1 es;have I2:=I.grow w2
         refine⟨a,vs,u,rfl,rfl,w2.g _ _ h3,by rw[h4.length];exact hl,?_⟩
         exact p σ S2 _ (I2.mut e e1 ((h4.mono w2.s).append (.cons rx .nil))) w2.s
       . exact p.elim
 . exact p.elim
theorem rY{mb:ah->OS}{D:Ends}{N:St->Hp->Prop}(hb:JS K cls W tb mb)(I:SR K cls Av G S₀ ρ σ S H)(hx:Rep K S x v)
  (p:fW K cls W Av G S₀ S D (cG i mb (x ::xs) ρ)) (hN:∀ ρ' σ' S' H',SR K cls Av G S₀ ρ' σ' S' H'->aD S S'->fW K cls W Av G S₀ S' D (cG i mb xs ρ')->N σ' H'):
  iw i v σ H fun σ2 H2=>tb { D with nx:=N,ct:=N,bk:=D.nx } σ2 H2:=by
 refine hb Av G S₀ _ _ S H _ (I.wN hx) ?_;rw[ib]at p
 cases e:mb (ρ.set i (some (.sh x)))with
 |nx ρ'=>rw[e]at p;exact fun σ' S' H' I' s'=>hN ρ' σ' S' H' I' s' (p.back s')
 |ct ρ'=>rw[e]at p;exact fun σ' S' H' I' s'=>hN ρ' σ' S' H' I' s' (p.back s')
 |bk ρ'=>rw[e]at p;exact p
 |rt ρ' r=>rw[e]at p;exact p
 |exc ρ' c fs=>rw[e]at p;exact p
 |bad=>rw[e]at p;exact p
theorem uF(h:k<n):(cO n).drop k=.int (k:Int) ::(cO n).drop (k+1):=by
 have hk:k<(cO n).length:=by unfold cO;simpa using h
 rw[List.drop_eq_getElem_cons hk]
 congr 1
 simp[cO]
theorem nW{me:ah->OE}{mb:ah->OS}(he:JE K cls W te me)(hb:JS K cls W tb mb):JS K cls W (zo (xo (fL te kb)) (iw i) tb) (i9 i me mb):=by
 intro Av G S₀ ρ σ S H D I p
 refine he.goS I p fun r v S1 H1 I1 w1 r1 p1=>?_
 cases e:r.pv with
 | int j=>
   rw[e]at p1
   have hv:v=.int j:=by have:=r1.rd I1.sh;rw[e]at this;exact de this
   subst hv
   dsimp only at p1
   split at p1
   . rename_i hj
     refine⟨j,rfl,hj.1,hj.2,?_⟩
     refine xv (n:=j.toNat) (fun k σ' H'=>∃ ρ' S',SR K cls Av G S₀ ρ' σ' S' H' /\ aD S1 S' /\ fW K cls W Av G S₀ S' D (cG i mb ((cO j.toNat).drop k) ρ'))
      ⟨ρ,S1,I1,aD.refl _,p1⟩ ?_ ?_
     . rintro k σ' H' hk ⟨ρ',S',I',s',p'⟩
       rw[uF hk]at p'
       refine rY hb I' ?_ p' fun ρ2 σ2 S3 H3 I3 s3 p3=>⟨ρ2,S3,I3,s'.trans s3,p3⟩
       unfold Rep;rw[Int.zero_add]
     . rintro σ' H' ⟨ρ',S',I',s',p'⟩
       rw[List.drop_of_length_le (by unfold cO;simp)]at p';exact p' σ' S' H' I' (aD.refl _)
   . exact p1.elim
 |_=>rw[e]at p1;exact p1.elim
theorem uv{mc:ah->OT}{mb:ah->OS}(hc:JT K cls W tc mc)(hb:JS K cls W tb mb):JS K cls W (vY tc tb) (gW mc mb n):=by
 intro Av G S₀ ρ σ S H D I p
 refine⟨fun m σ' H'=>∃ ρ' S',SR K cls Av G S₀ ρ' σ' S' H' /\ aD S S' /\ fW K cls W Av G S₀ S' D (gW mc mb m ρ'),⟨n,ρ,S,I,aD.refl _,p⟩,?_⟩
 rintro m σ1 H1 ⟨ρ1,S1,I1,s1,p1⟩
 cases m with
 |zero=>exact p1.elim
 | succ m=>
   unfold gW at p1
   refine hc.goS I1 p1 fun b S2 H2 I2 w2 p2=>?_
   cases b with
   |false=>exact uC (p2 σ1 S2 H2 I2 (aD.refl _))
   | true=>
     refine uB ⟨fun σ' H'=>∃ ρ' S',SR K cls Av G S₀ ρ' σ' S' H' /\ aD S S' /\ fW K cls W Av G S₀ S' D (gW mc mb m ρ'),fun σ' H' h=>⟨m,Nat.lt_succ_self m,h⟩,?_⟩;refine hb Av G S₀ ρ1 σ1 S2 H2 _ I2 ?_;simp only[if_true]at p2
     cases e:mb ρ1 with
     |nx ρ'=>rw[e]at p2;exact fun σ' S' H' I' s'=>⟨ρ',S',I',(s1.trans w2.s).trans s',p2.back s'⟩
     |ct ρ'=>rw[e]at p2;exact fun σ' S' H' I' s'=>⟨ρ',S',I',(s1.trans w2.s).trans s',p2.back s'⟩
     |bk ρ'=>rw[e]at p2;exact p2
     |rt r=>rw[e]at p2;exact p2
     |exc ρ' c fs=>rw[e]at p2;exact p2
     |bad=>rw[e]at p2;exact p2
end
section
variable{K:PySem.W.Frag}{cls:String->Option Addr}{W:XW}{Av G S₀ S S' H H' B B':Hp}{ρ:ah}{σ:St}{Q:VK}
noncomputable def yH:V->Option Int
 |.int i=>some i
 |_=>none
noncomputable def JO(K:PySem.W.Frag)(cls:String->Option Addr)(W:XW)(to:TO)(m:ah->OE):Prop:=∀ Av G S₀ ρ σ S H (Q:Option Int->Hp->Prop),SR K cls Av G S₀ ρ σ S H ->
 jz K cls W σ S H (fun v H'=>Q (yH v) H') (m ρ)->to σ H Q
theorem dm:JO K cls W sR (mC .non):=fun Av G S₀ ρ σ S H Q I p=>p .non S H (aZ.refl I.sh) (by show Rep K S _ _;unfold Rep;rfl)
theorem dq{m:ah->OE}(h:JE K cls W te m):JO K cls W (yU te) (gg m):=by
 intro Av G S₀ ρ σ S H Q I p
 refine h.go I p fun r v S1 H1 I1 w1 r1 p1=>?_
 cases e:r.pv with
 | int i=>
   rw[e]at p1
   have hv:v=.int i:=by have:=r1.rd I1.sh;rw[e]at this;exact de this
   exact⟨i,hv,p1 (.int i) S1 H1 (aZ.refl I1.sh) (by show Rep K S1 _ _;unfold Rep;rfl)⟩
 |_=>rw[e]at p1;exact p1.elim
theorem JO.go{m:ah->OE}{f:RV->OE}{Q':Option Int->Hp->Prop}(h:JO K cls W to m)(I:SR K cls Av G S₀ ρ σ S H)(p:jz K cls W σ S H Q ((m ρ).bind f))
  (k:∀ r v S1 H1,SR K cls Av G S₀ ρ σ S1 H1->aZ S H S1 H1->jr K H S1 H1 r v->jz K cls W σ S1 H1 Q (f r)->Q' (yH v) H1):to σ H Q':=by
 refine h Av G S₀ ρ σ S H Q' I ?_
 cases e:m ρ with
 |ok r=>rw[e]at p;exact fun v S1 H1 w r1=>k r v S1 H1 (I.grow w) w r1 (p.back w)
 |exc c fs=>rw[e]at p;exact p
 |bad=>rw[e]at p;exact p
theorem part_of(h:RdV K S H x v):yH v=lI x:=by
 cases x with
 |int i=>rw[de h];rfl
 |non=>rw[gA h];rfl
 |bl b=>rw[jA h];rfl
 |str b=>rw[gV h];rfl
 |lst xs=>obtain⟨p,vs,rfl,_⟩:=js h;rfl
 |tup xs=>obtain⟨p,vs,rfl,_⟩:=fM h;rfl
theorem bA.cut(h:bA K S xs vs)(lo hi:Option Int):bA K S (jt xs lo hi) (p8 vs lo hi):=by
 have es:∀ n d o,kD n d o=HT.sIx n d o:=fun n d o=>by cases o<;>rfl
 unfold jt p8;simp only[es];rw[h.length]
 exact(h.drop _).take _
theorem join_some{α:Type}{o:Option (Option α)}{s:α}(h:o.join=some s):o=some (some s):=by
 cases o with
 |none=>cases h
 | some x=>cases x with
   |none=>cases h
   |some y=>rw[show y=s from Option.some.inj h]
theorem AZ{α:Type}{l:List (Option α)}{ι:List Nat}{j:Nat}{s:α}(h:(ι.map fun i=>(l[i]?).join)[j]?=some (some s)):∃ i,ι[j]?=some i /\ l[i]?=some (some s):=by
 rw[List.getElem?_map]at h
 cases e:ι[j]? with
 |none=>rw[e]at h;cases h
 |some i=>rw[e]at h;exact⟨i,rfl,join_some (Option.some.inj h)⟩
noncomputable def CC(ι:List Nat)(Av:Hp):Hp:=fun j=>match ι[j]? with
 |some i=>Av i
 |none=>none
noncomputable def uJ(ι:List Nat)(F:Nat->List Addr):Nat->List Addr:=fun j=>match ι[j]? with
 |some i=>F i
 |none=>[]
theorem p7.at(h:p7 K cls Av G S H i s v fp)(e:Av' j=Av i):p7 K cls Av' G S H j s v fp:=by
 cases s with
 |sh x=>exact h
 |ow xs=>exact h
 |ex c fs=>exact h
 |tr io t=>exact⟨h.1,h.2.1,h.2.2.1,fun z=>by rw[e];exact h.2.2.2 z⟩
 |bo t=>exact h
theorem SR.pick{ι:List Nat}{x:PV}{v:V}(I:SR K cls Av G S₀ ρ σ S H)(hι:ι.Nodup)(hx:Rep K S x v):SR K cls (CC ι Av) G S₀ (dg ι ρ++[some (.sh x)]) (L2.E.pick ι σ++[some v]) S H:=by
 obtain⟨F,J⟩:=I
 have hl:(dg ι ρ).length=(L2.E.pick ι σ).length:=by unfold dg L2.E.pick;simp
 have hp:(dg ι ρ).length=ι.length:=by unfold dg;simp
 refine⟨uJ ι F,J.gh,J.s0,J.sh,J.new,fun j s e=>?_,fun j k a h1 h2=>?_,fun j a h=>?_,by unfold dg L2.E.pick;simp⟩
 . by_cases hj:j<(dg ι ρ).length
   . rw[List.getElem?_append_left hj]at e;obtain⟨i,e1,e2⟩:=AZ e;obtain⟨u,e3,r⟩:=J.own i s e2
     refine⟨u,?_,?_⟩
     . rw[List.getElem?_append_left (by rw[<- hl];exact hj)];unfold L2.E.pick;rw[List.getElem?_map,e1];show some (σ[i]?).join=_;rw[e3];rfl
     . unfold uJ;rw[e1];exact r.at (by unfold CC;rw[e1])
   . have hj':(dg ι ρ).length<=j:=Nat.le_of_not_lt hj
     rw[List.getElem?_append_right hj']at e
     have h0:j - (dg ι ρ).length=0:=by
      by_cases h:j - (dg ι ρ).length=0
      . exact h
      . rw[List.getElem?_eq_none (by simp;omega)]at e;cases e
     rw[h0]at e;cases e
     refine⟨v,?_,?_,hx⟩
     . rw[List.getElem?_append_right (by rw[<- hl];exact hj'),<- hl,h0];rfl
     . unfold uJ;rw[List.getElem?_eq_none (by rw[<- hp];exact hj')]
 . unfold uJ at h1 h2
   cases e1:ι[j]? with
   |none=>rw[e1]at h1;cases h1
   | some i=>
     cases e2:ι[k]? with
     |none=>rw[e2]at h2;cases h2
     | some i'=>
       rw[e1]at h1;rw[e2]at h2;have z:=J.apart i i' a h1 h2;subst z;obtain⟨ha,ea⟩:=List.getElem?_eq_some_iff.mp e1;obtain⟨hb,eb⟩:=List.getElem?_eq_some_iff.mp e2
       exact(List.getElem_inj hι).mp (ea.trans eb.symm)
 . unfold uJ at h
   cases e1:ι[j]? with
   |none=>rw[e1]at h;cases h
   |some i=>rw[e1]at h;exact J.live i a h
theorem yp{me:ah->OE}(h:cf me ρ (x ::xs)=.ok ys):∃ r y zs,me (ρ++[some (.sh x)])=.ok r /\ jD r=some y /\ cf me ρ xs=.ok zs /\ ys=y ::zs:=by
 unfold cf at h
 cases e:me (ρ++[some (.sh x)])with
 | ok r=>
   rw[e]at h;simp only[OE.ee]at h
   cases e2:jD r with
   |none=>rw[e2]at h;cases h
   | some y=>
     rw[e2]at h
     dsimp only at h
     cases e3:cf me ρ xs with
     |ok zs=>rw[e3]at h;cases h;exact⟨r,y,zs,rfl,e2,rfl,rfl⟩
     |exc c fs=>rw[e3]at h;cases h
     |bad=>rw[e3]at h;cases h
 |exc c fs=>rw[e]at h;cases h
 |bad=>rw[e]at h;cases h
theorem lX{J:It}{ι:List Nat}{me:ah->OE}{xs ys:List PV}(hι:ι.Nodup)(he:JE K cls (fun _ _ _ _=>False) te me)(I:SR K cls Av G S₀ ρ σ S H)(hy:cf me (dg ι ρ) xs=.ok ys)(hl:ys.length<=lim)
  (go:∀ k H' x,aD H H'->xs[k]?=some x->J.go k H' /\ ∀ v H2,J.yld k H' v H2->H2=H' /\ Rep K S x v) (stop:∀ H',aD H H'->J.stop xs.length H')
  (hQ:∀ D S' H',aZ S H S' H'->H D=none->S' D=none->(∃ us,H' D=some (.lst us) /\ bA K S' ys us)->Q (.ref D) H'):
  ∀ D,H D=none->∃ W:Nat->Nat->List V->Hp->Prop,(∃ m,W 0 m [] (upd H D (.lst []))) /\ ∀ i m us H',W i m us H' ->
    H' D=some (.lst us) /\ ((J.stop i H' /\ Q (.ref D) H') \/ (J.go i H' /\ ∀ x H2,J.yld i H' x H2->te (L2.E.pick ι σ++[some x]) H2 fun y H3=>H3 D=some (.lst us) /\ us.length<sizeLine /\ ∃ m',m'<m /\ W (i+1) m' (us++[y]) (upd H3 D (.lst (us++[y]))))):=by
 intro D nD
 refine⟨fun k m us H'=>m+k=xs.length /\ H' D=some (.lst us) /\ ∃ S' zs ws,aD S S' /\ aD H H' /\ aD S' H' /\ (∀ b,S' b≠none->S b≠none \/ (H b=none /\ b≠D)) /\ bA K S' zs us /\ cf me (dg ι ρ) (xs.drop k)=.ok ws /\ ys=zs++ws,
  ⟨xs.length,rfl,bE,S,[],ys,aD.refl _,aD.new nD,I.sh.trans (aD.new nD),fun b z=>.inl z,.nil,hy,rfl⟩,?_⟩
 rintro k m us H' ⟨hm,hD,S',zs,ws,s1,g1,sh1,n1,r1,e1,rfl⟩
 refine⟨hD,?_⟩
 have hSD:S' D=none:=by
  cases q:S' D with
  |none=>rfl
  | some o=>
    rcases n1 D (by rw[q];simp)with z|⟨_,z⟩
    . exact absurd (I.sh.free nD) z
    . exact absurd rfl z
 by_cases hk:k<xs.length
 . refine .inr ?_
   have hx:xs[k]?=some xs[k]:=by simp[hk]
   obtain⟨hgo,hyld⟩:=go k H' xs[k] g1 hx
   refine⟨hgo,fun v H2 hv=>?_⟩
   obtain⟨rfl,rv⟩:=hyld v H2 hv;rw[List.drop_eq_getElem_cons hk]at e1;obtain⟨r,y,zs',em,es,e2,rfl⟩:=yp e1
   have I1:SR K cls Av G S₀ ρ σ S' H2:=I.grow ⟨s1,g1,sh1,fun b z=>by
    rcases n1 b z with z|⟨z,_⟩
    . exact .inl z
    . exact .inr z⟩
   refine he _ G S₀ _ _ S' H2 _ (I1.pick hι (Rep.mono s1 rv)) ?_;rw[em];intro u S2 H3 w2 r2;obtain⟨S3,w3,s3,ru⟩:=r2.share w2 es
   have hl2:(zs++y ::zs').length<=lim:=hl
   have hSD3:S3 D=none:=by
    cases q:S3 D with
    |none=>rfl
    | some o=>
      rcases w3.new D (by rw[q];simp)with z|z
      . exact absurd hSD z
      . rw[hD]at z;cases z
   refine⟨w3.g _ _ hD,?_,m - 1,by omega,by omega,bE,S3,zs++[y],zs',s1.trans w3.s,(g1.trans w3.g).upd nD,w3.sh.upd hSD3,fun b z=>?_,(r1.mono w3.s).append (.cons ru .nil),e2,by simp⟩
   . rw[r1.length,<- vE];rw[List.length_append,List.length_cons]at hl2;omega
   . rcases w3.new b z with z|z
     . exact n1 b z
     . refine .inr ⟨g1.free z,fun e=>?_⟩;rw[e,hD]at z;cases z
 . have hk':k=xs.length:=by omega
   subst hk';refine .inl ⟨stop H' g1,?_⟩;rw[List.drop_length]at e1;cases e1
   exact hQ D S' H' ⟨s1,g1,sh1,fun b z=>by
    rcases n1 b z with z|⟨z,_⟩
    . exact .inl z
    . exact .inr z⟩ nD hSD ⟨us,hD,by rw[List.append_nil];exact r1⟩
theorem EY{ml me:ah->OE}{ι:List Nat}(hι:ι.Nodup)(hl:JE K cls W tl ml)(he:JE K cls (fun _ _ _ _=>False) te me):JE K cls W (qG (Fw K tl) ι te) (DP ml ι me):=by
 intro Av G S₀ ρ σ S H Q I p
 refine hl.go I p fun r v S1 H1 I1 w1 r1 p1=>?_
 have ra:=r1.rd I1.sh
 cases e:r.pv with
 | lst xs=>
   rw[e]at p1 ra;obtain⟨a,vs,rfl,hq,hr⟩:=js ra
   refine⟨a,rfl,⟨vs,hq⟩,?_⟩
   dsimp only at p1
   cases em:cf me (dg ι ρ) xs with
   |exc c fs=>rw[em]at p1;exact p1.elim
   |bad=>rw[em]at p1;exact p1.elim
   | ok ys=>
     rw[em]at p1;simp only[noX]at p1;split at p1
     . rename_i hlen
       refine lX hι he I1 em hlen (fun k H' x g hx=>?_) (fun H' g=>⟨vs,aD.seq g hq,by rw[hr.length];exact Nat.le_refl _⟩) fun D S' H' w nD sD ⟨us,hD,rr⟩=>p1 (.ref D) S' H' w ⟨D,us,rfl,nD,sD,hD,rr⟩
       obtain⟨u,hu,ru⟩:=hr.get hx
       refine⟨⟨vs,u,aD.seq g hq,hu⟩,?_⟩
       rintro v' H2 ⟨rfl,hv⟩
       have:=hv vs (aD.seq g hq);rw[hu]at this;cases this
       exact⟨rfl,ru⟩
     . exact p1.elim
 |_=>rw[e]at p1;exact p1.elim
theorem Af{mn me:ah->OE}{ι:List Nat}(hι:ι.Nodup)(hn:JE K cls W tn mn)(he:JE K cls (fun _ _ _ _=>False) te me):JE K cls W (qG (xo (fL tn kb)) ι te) (nr mn ι me):=by
 intro Av G S₀ ρ σ S H Q I p
 refine hn.go I p fun r v S1 H1 I1 w1 r1 p1=>?_
 have ra:=r1.rd I1.sh
 cases e:r.pv with
 | int j=>
   rw[e]at p1 ra;have hv:=de ra;subst hv
   dsimp only at p1
   split at p1
   . rename_i hj
     refine⟨j,rfl,hj.1,hj.2,?_⟩
     cases em:cf me (dg ι ρ) (cO j.toNat)with
     |exc c fs=>rw[em]at p1;exact p1.elim
     |bad=>rw[em]at p1;exact p1.elim
     | ok ys=>
       rw[em]at p1;simp only[noX]at p1;split at p1
       . rename_i hlen
         have hln:(cO j.toNat).length=j.toNat:=by unfold cO;simp
         refine lX hι he I1 em hlen (fun k H' x g hx=>?_) (fun H' g=>by rw[hln];exact Nat.le_refl _) fun D S' H' w nD sD ⟨us,hD,rr⟩=>p1 (.ref D) S' H' w ⟨D,us,rfl,nD,sD,hD,rr⟩
         have hk:k<j.toNat:=by rw[<- hln];exact(List.getElem?_eq_some_iff.mp hx).1
         refine⟨hk,?_⟩
         rintro v' H2 ⟨rfl,rfl⟩
         refine⟨rfl,?_⟩
         have:x=.int (k:Int):=by
          unfold cO at hx;rw[List.getElem?_map,List.getElem?_range hk]at hx
          exact(Option.some.inj hx).symm
         subst this;unfold Rep;rw[Int.zero_add]
       . exact p1.elim
   . exact p1.elim
 |_=>rw[e]at p1;exact p1.elim
theorem bA.begin(h:bA K S xs vs)(N:List Str)(i:Nat)(s:Sl)(e:(hZ N.length xs)[i]?=some (some s)):∃ x v,s=.sh x /\ (L2.start N vs)[i]?=some (some v) /\ Rep K S x v:=by
 unfold hZ at e
 by_cases hi:i<xs.length
 . rw[List.getElem?_append_left (by simpa using hi),List.getElem?_map]at e
   have hx:xs[i]?=some xs[i]:=by simp[hi]
   rw[hx]at e;cases e;obtain⟨v,hv,r⟩:=h.get hx
   refine⟨_,v,rfl,?_,r⟩
   unfold L2.start;rw[List.getElem?_append_left (by rw[List.length_map,h.length];exact hi),List.getElem?_map,hv];rfl
 . rw[List.getElem?_append_right (by simpa using hi)]at e;rw[List.getElem?_replicate]at e
   split at e<;>cases e
theorem G4{P:Program}{w:World}{mg:Str->Option Value}{base:Heap}{x qual:Str}{st:Stmt}{f:Addr}{fd:FuncData}{N ps:List Str}{k:Nat}{m:ah->OS}(F:Fun K x qual st f fd)(Sc:bu N ps (aJ st))
  (hbody:∀(cdv:Value) (A:Around) (outer:List Env) (s:Shared) (H:Hp) (E:XK),ip k (A.deeper (envOfC qual (aJ st) s.heap.objs.size f cdv)) ->
    ∃ t,PSs (n8 (CXE P w) P w K mg base N qual (aJ st) f cdv A outer s H E) (eU st) t /\ JS K cls (fun C a _ H=>∀ H',aD H H'->E C a H') t m):cn P w K mg base (CXE P w) (k+1) f fd ps (spP K cls (fnP ps.length N.length m)):=by
 refine okX F Sc (fun vs H Q E h=>?_) fun cdv A outer s H vs Q E hr h=>?_
 . obtain⟨S,xs,_,r,q⟩:=h;unfold fnP at q;split at q
   . rw[r.length];assumption
   . exact q.elim
 . obtain⟨S,xs,sS,r,q⟩:=h;unfold fnP at q;split at q
   . rename_i hl;obtain⟨t,ht,J⟩:=hbody cdv A outer s H E hr
     refine⟨t,ht,?_⟩
     refine J (fun _=>none) H S (hZ N.length xs) (start N vs) S H _ ⟨fun _=>[],aD.refl _,aD.refl _,sS,fun _ z=>.inl z,fun i s e=>?_,fun i j a h=>(nomatch h),fun i a h=>(nomatch h),?_⟩ ?_
     . obtain⟨x,v,rfl,e1,rx⟩:=r.begin N i s e
       exact⟨v,e1,rfl,rx⟩
     . unfold hZ L2.start;simp[r.length]
     . cases e:m (hZ N.length xs)with
       |nx ρ'=>rw[e]at q;exact fun σ' S' H' I' s'=>q .non S' H' ⟨I'.s0,I'.gh,I'.sh,I'.new⟩ (by show Rep K S' _ _;unfold Rep;rfl)
       |bk ρ'=>rw[e]at q;exact q.elim
       |ct ρ'=>rw[e]at q;exact q.elim
       |bad=>rw[e]at q;exact q.elim
       | rt ρ' r=>
         rw[e]at q
         cases r with
         |al ys=>exact q.elim
         |sh y=>exact fun v σ' S' H' b' s' rr=>q v S' H' ⟨b'.s0,b'.gh,b'.sh,b'.new⟩ rr
         |fr ys=>exact fun v σ' S' H' b' s' rr=>q v S' H' ⟨b'.s0,b'.gh,b'.sh,b'.new⟩ rr
       | exc ρ' c fs=>
         rw[e]at q
         exact fun a C σ' S' H' I' s' x H2 g2=>q a C S' H2 ⟨I'.s0,I'.gh.trans g2,I'.sh.trans g2,I'.new⟩ (x.mono (aD.refl _) g2)
   . exact q.elim
noncomputable def sX(K:PySem.W.Frag):Sp:=fun vs H Q _=>∃(a:Addr) (ns:List Int),vs=[.ref a] /\ SqL K H a (ns.map V.int) /\ ns.length<=63 /\ ∀ H',Q (.bl true) H'
theorem Ar{f:List PV->OE}(h:∀ ns:List Int,ns.length<=63->f [.lst (ns.map .int)]=.ok (.sh (.bl true)))(vs:List V)(H:Hp)(Q:VK)(E:XK)(q:sX K vs H Q E):spP K cls f vs H Q E:=by
 obtain⟨a,ns,rfl,hS,hl,q⟩:=q
 refine⟨H,[.lst (ns.map .int)],aD.refl _,.cons (by unfold Rep;exact⟨a,_,rfl,hS,bA.ints⟩) .nil,?_⟩
 rw[h ns hl];intro v S' H' w r
 have:v=.bl true:=by have r':Rep K S' (.bl true) v:=r;unfold Rep at r';exact r'
 subst this;exact q H'
end
section
variable{K:PySem.W.Frag}{cls:String->Option Addr}{W:XW}{Av G S₀ S S' H H' B B':Hp}{ρ:ah}{σ:St}{Q:VK}
theorem sy{x:PV}{v:V}(h:RdV K S H x v):decide (v=.non)=fK x:=by
 cases x with
 |non=>rw[gA h];rfl
 |bl b=>rw[jA h];rfl
 |int b=>rw[de h];rfl
 |str b=>rw[gV h];rfl
 |lst xs=>obtain⟨p,vs,rfl,_⟩:=js h;rfl
 |tup xs=>obtain⟨p,vs,rfl,_⟩:=fM h;rfl
theorem vz:JR K (fun x y H Q=>y=.non /\ Q (.bl (decide (x=.non))) H) xK:=by
 intro S H x y v u rr Q I hx hy e k;unfold xK at e;split at e
 . cases e
   exact⟨gA hy,k _ S H (aZ.refl I) (by rw[sy hx];exact i3)⟩
 . cases e
theorem wF:JR K (fun x y H Q=>y=.non /\ Q (.bl (!decide (x=.non))) H) uq:=by
 intro S H x y v u rr Q I hx hy e k;unfold uq at e;split at e
 . cases e
   exact⟨gA hy,k _ S H (aZ.refl I) (by rw[sy hx];exact i3)⟩
 . cases e
end
end L2.P
namespace L2
open PySem PySem.Spec PyProof.Rows
structure QE(X:Cx)(e:Expr)(t:TE):Prop where
 out:PE X e t
structure QA(X:Cx)(es:List Expr)(t:TA):Prop where
 out:PA X es t
structure QS(X:Cx)(st:Stmt)(t:TS):Prop where
 out:PS X st t
structure QSs(X:Cx)(st:List Stmt)(t:TS):Prop where
 out:PSs X st t
structure QT(X:Cx)(e:Expr)(t:TT):Prop where
 out:PT X e t
structure QW(X:Cx)(e:Expr)(t:TT):Prop where
 out:PW X e t
structure QI(X:Cx)(tg e:Expr)(t:TI):Prop where
 out:PI X tg e t
structure QG(X:Cx)(e:Expr)(t:TG):Prop where
 out:PG X e t
structure QO(X:Cx)(e:Option Expr)(t:TO):Prop where
 out:PO X e t
end L2
namespace L2
theorem qau(h:True:=by first|rfl|decide|exact .inl rfl|exact .inr rfl|exact .inr (.inl rfl)|exact .inr (.inr rfl)|assumption|(intro _;rfl)|with_unfolding_all rfl):True:=h
end L2
namespace L2.E
open PySem PySem.Spec PyProof.Rows L2
theorem pR:QE X (Expr.Constant (Const.bool b) j pos) (tC (V.bl b)):=⟨EJ ⟩
theorem ak:QE X (Expr.Constant (Const.int i) j pos) (tC (V.int i)):=⟨Dm ⟩
theorem aX:QE X (Expr.Constant (Const.str x) j pos) (tC (V.str x)):=⟨Dw ⟩
theorem jc:QE X (Expr.Constant Const.none j pos) (tC V.non):=⟨Ed ⟩
theorem qv{X:Cx}(h1:Nat)(h4:autoParam (X.N[h1]?=some x) qau._auto_1)(h5:autoParam (Vis X.env.scope x) qau._auto_1)(h6:autoParam ((x==Str.ofString "__debug__")=false) qau._auto_1)(h7:autoParam ((x==Str.ofString "__classdict__")=false) qau._auto_1):QE X (Expr.Name x pos) (vd h1):=⟨pv h1 h4 h5 h6 h7⟩
theorem lY{X:Cx}(h5:Gl X x)(h6:X.mg x=none)(h7:bootBuiltins x=some u)(h8:RelV v u)(h9:autoParam (x≠Str.ofString "__name__") qau._auto_1)(h10:autoParam ((x==Str.ofString "__debug__")=false) qau._auto_1):QE X (Expr.Name x pos) (tC v):=⟨Bl h5 h6 h7 h8 h9 h10⟩
theorem pU{r:V->Hp->VK->Prop}(h6:UnR X (unaryOp op) r)(h7:QE X a ta):QE X (Expr.UnaryOp op a pos) (tUn r ta):=⟨Fb h6 h7.out⟩
theorem aP(h8:OpR X (binaryOp op) r)(h9:QE X a ta)(h10:QE X b tb):QE X (Expr.BinOp a op b pos) (tOp r ta tb):=⟨EI h8 h9.out h10.out⟩
theorem oO(h8:OpR X (compareOp op) r)(h9:QE X a ta)(h10:QE X b tb)(h11:behindInMarks op b=false):QE X (Expr.Compare a [op] [b] pos) (tOp r ta tb):=⟨BA h8 h9.out h10.out h11⟩
theorem yC(h5:QE X a t):QE X (Expr.BoolOp op [a] pos) t:=⟨DV h5.out⟩
theorem zE{X:Cx}{a:Expr}{b:Expr}{ta:TE}{tb:TE}{pos:Pos}{rest:List Expr}(h7:QE X a ta)(h8:QE X (Expr.BoolOp BoolOp.And (b ::rest) pos) tb):QE X (Expr.BoolOp BoolOp.And (a ::b ::rest) pos) (yP ta tb):=⟨CQ h7.out h8.out⟩
theorem fJ(h8:QT X c tA)(h9:QE X a ta)(h10:QE X b tb):QE X (Expr.IfExp c a b pos) (tIf tA ta tb):=⟨yu h8.out h9.out h10.out⟩
theorem bT(h4:QA X es t):QE X (Expr.List es pos) (Bv t):=⟨C4 h4.out⟩
theorem aU(h5:QA X es t):QE X (Expr.Tuple es x1 pos) (CZ t):=⟨DF h5.out⟩
theorem cy{X:Cx}{e:Expr}{te:TE}{lo:Option Expr}{hi:Option Expr}{tl:TO}{th:TO}{pos:Pos}{p2:Pos}{r:V->Option Int->Option Int->Hp->VK->Prop}(h10:SlR X r)(h11:QE X e te)(h12:QO X lo tl)(h13:QO X hi th):QE X (Expr.Subscript e (Expr.Slice lo hi none p2) pos) (tSl r te tl th):=⟨zG h10 h11.out h12.out h13.out⟩
theorem E9(h7:IxR X r)(h8:QE X a ta)(h9:QE X b tb)(h10:tG b):QE X (Expr.Subscript a b pos) (tOp r ta tb):=⟨Fg h7 h8.out h9.out h10⟩
theorem qa{X:Cx}{cl:List (Str×Addr)}(h12:lK X scope cl M ι x)(h13:X.calm=true)(h14:QI X (Expr.Name x px) iter wi)(h15:∀(C:Addr) (s₀:Shared) (H₀:Hp) (ex:List Addr),QE (blk X scope cl (M++[x]) C s₀ H₀ ex) elt te)(h16:autoParam (∀(v:Value),foldedSetIterable iter X.env v=pure v) qau._auto_1):QE X (Expr.ListComp elt [Comprehension.mk (Expr.Name x px) iter [] 0] scope pos) (qG wi ι te):=⟨Ay h12 h13 h14.out (fun z0 z1 z2 z3=>(h15 z0 z1 z2 z3).out) h16⟩
theorem bb{X:Cx}{x:Str}(h15:cn X.prog X.w X.K X.mg X.base (CXE X.prog X.w) k f fd ps sp)(h16:ip k X.A)(h17:Gl X x)(h18:X.mg x=some (Value.ref f))(h19:PySem.W.keepIn X.K (Value.ref f)=true)(h20:Binds X.K fd ps ds)(h21:Vals dvs ds)(h22:Thr X W)(h23:QA X (e ::es) t)(h24:autoParam ((x==Str.ofString "__debug__")=false) qau._auto_1)(h25:autoParam (starEach (e ::es) X.env=(false,eval e X.env) ::starEach es X.env) qau._auto_1)(h26:autoParam ((List.any (backTo pos (starEach es X.env)) fun x=>x.fst)=false) qau._auto_1):QE X (Expr.Call (Expr.Name x p) (e ::es) [] pos) (ph sp dvs W t):=⟨zi h15 h16 h17 h18 h19 h20 h21 h22 h23.out h24 h25 h26⟩
theorem gT{X:Cx}{x:Str}{p:Pos}{pos:Pos}{e:Expr}{es:List Expr}{t:TA}{id:String}{r:List V->Hp->VK->Prop}(h9:ko X (Value.builtin id) r)(h10:Gl X x)(h11:X.mg x=none)(h12:bootBuiltins x=some (Value.builtin id))(h13:QA X (e ::es) t)(h14:autoParam (x≠Str.ofString "__name__") qau._auto_1)(h15:autoParam ((x==Str.ofString "__debug__")=false) qau._auto_1)(h16:autoParam (starEach (e ::es) X.env=(false,eval e X.env) ::starEach es X.env) qau._auto_1)(h17:autoParam ((List.any (backTo pos (starEach es X.env)) fun x=>x.fst)=false) qau._auto_1):QE X (Expr.Call (Expr.Name x p) (e ::es) [] pos) (tCB r t):=⟨za h9 h10 h11 h12 h13.out h14 h15 h16 h17⟩
theorem ft{X:Cx}{x:Str}{r:List V->Hp->VK->Prop}(h9:ko X (Value.type T) r)(h10:Gl X x)(h11:X.mg x=none)(h12:bootBuiltins x=some (Value.type T))(h13:QA X (e ::es) t)(h14:autoParam (x≠Str.ofString "__name__") qau._auto_1)(h15:autoParam ((x==Str.ofString "__debug__")=false) qau._auto_1)(h16:autoParam (starEach (e ::es) X.env=(false,eval e X.env) ::starEach es X.env) qau._auto_1)(h17:autoParam ((List.any (backTo pos (starEach es X.env)) fun x=>x.fst)=false) qau._auto_1):QE X (Expr.Call (Expr.Name x p) (e ::es) [] pos) (tCB r t):=⟨yk h9 h10 h11 h12 h13.out h14 h15 h16 h17⟩
theorem Ai{X:Cx}{o:Expr}{e:Expr}{es:List Expr}{to:TE}{t:TA}{name:Str}{apos:Pos}{cpos:Pos}{T:String}{id:String}{r:V->List V->Hp->VK->Prop}(h12:PlainAttrs T)(h13:Slot T name id)(h14:typeOf (Value.builtin id)=pure (Value.type "method_descriptor"))(h15:MtR X id r)(h16:QE X o to)(h17:QA X (e ::es) t)(h18:autoParam (attributeBase o name X.env (eval o X.env)=eval o X.env) qau._auto_1)(h19:autoParam ((((List.all (backTo cpos (starEach (e ::es) X.env)) fun x=>!x.fst)&&List.all (backToKw cpos (keywordEach [] X.env)) fun x=>Option.isSome x.fst)&&Decidable.decide ((List.length (e ::es)+List.length ([]:List Keyword)+if List.isEmpty ([]:List Keyword)=true then 0 else 1)<30))=true) qau._auto_1)(h20:autoParam ((apos.endLine==cpos.line)=true) qau._auto_1)(h21:autoParam (starEach (e ::es) X.env=(false,eval e X.env) ::starEach es X.env) qau._auto_1)(h22:autoParam ((List.any (backTo cpos (starEach es X.env)) fun x=>x.fst)=false) qau._auto_1):QE X (Expr.Call (Expr.Attribute o name apos) (e ::es) [] cpos) (tBM X.K T r to t):=⟨EE h12 h13 h14 h15 h16.out h17.out h18 h19 h20 h21 h22⟩
theorem yY{X:Cx}{o:Expr}{to:TE}{name:Str}{apos:Pos}{cpos:Pos}{T:String}{id:String}{r:V->List V->Hp->VK->Prop}(h9:PlainAttrs T)(h10:Slot T name id)(h11:typeOf (Value.builtin id)=pure (Value.type "method_descriptor"))(h12:MtR X id r)(h13:QE X o to)(h14:autoParam (attributeBase o name X.env (eval o X.env)=eval o X.env) qau._auto_1)(h15:autoParam ((apos.endLine==cpos.line)=true) qau._auto_1):QE X (Expr.Call (Expr.Attribute o name apos) [] [] cpos) (BF X.K T r to):=⟨DW h9 h10 h11 h12 h13.out h14 h15⟩
theorem dw:QO X none sR:=⟨AV ⟩
theorem dk(h3:QE X e te):QO X (some e) (yU te):=⟨Bm h3.out⟩
theorem aq:QA X [] kb:=⟨Dj ⟩
theorem aa(h5:QE X e te)(h6:QA X es t)(h7:autoParam (isStar e=false) qau._auto_1):QA X (e ::es) (fL te t):=⟨y8 h5.out h6.out h7⟩
theorem xg(h8:OpR X (compareOp op) r)(h9:QE X a ta)(h10:QE X b tb)(h11:behindInMarks op b=false):QT X (Expr.Compare a [op] [b] pos) (rR (tOp r ta tb)):=⟨AA h8 h9.out h10.out h11⟩
theorem uY(h12:OpR X (compareOp op) r)(h13:OpR X (compareOp op') r')(h14:QE X a ta)(h15:QE X b tb)(h16:QE X c tc)(h17:autoParam (lastMarks [op,op'] [b,c]=false) qau._auto_1):QT X (Expr.Compare a [op,op'] [b,c] pos) (rR (vA r r' ta tb tc)):=⟨zp h12 h13 h14.out h15.out h16.out h17⟩
theorem iY(h4:QT X a tA):QT X (Expr.UnaryOp UnaryOp.Not a pos) (D8 tA):=⟨C9 h4.out⟩
theorem bJ{X:Cx}(h3:QE X a ta)(h4:∀(whole:Sem Value),
 isTrue a X.env whole=do
  let v <- whole
  standAt (Expr.pos a)
  holding [v] (truthy v)):QT X a fun σ H Q=>ta σ H fun x H'=>∃ k,xy X.K x H' k /\ Q k H':=⟨yx h3.out h4⟩
theorem hE(h3:QW X e t):QT X e t:=⟨PW.pt h3.out⟩
theorem gm(h4:QT X a tA):QW X (Expr.BoolOp BoolOp.And [a] pos) tA:=⟨Be h4.out⟩
theorem o8(h4:QT X a tA):QW X (Expr.BoolOp BoolOp.Or [a] pos) tA:=⟨D2 h4.out⟩
theorem hV{X:Cx}{a:Expr}{b:Expr}{pos:Pos}{tA:TT}{tB':TT}{rest:List Expr}(h7:QT X a tA)(h8:QW X (Expr.BoolOp BoolOp.And (b ::rest) pos) tB'):QW X (Expr.BoolOp BoolOp.And (a ::b ::rest) pos) (Di tA tB'):=⟨En h7.out h8.out⟩
theorem rX{X:Cx}{a:Expr}{b:Expr}{pos:Pos}{tA:TT}{tB':TT}{rest:List Expr}(h7:QT X a tA)(h8:QW X (Expr.BoolOp BoolOp.Or (b ::rest) pos) tB'):QW X (Expr.BoolOp BoolOp.Or (a ::b ::rest) pos) (tOr tA tB'):=⟨E2 h7.out h8.out⟩
theorem iL{X:Cx}(h6:Gl X (Str.ofString "range"))(h7:X.mg (Str.ofString "range")=none)(h8:QA X [a] ta)(h9:autoParam (starEach [a] X.env=[(false,eval a X.env)]) qau._auto_1):QI X tg (Expr.Call (Expr.Name (Str.ofString "range") p) [a] [] pos) (xo ta):=⟨xR h6 h7 h8.out h9⟩
theorem vK{X:Cx}(h4:QE X l tl):QI X tg l (Az X.K tl):=⟨DJ h4.out⟩
theorem Dc{X:Cx}{pos:Pos}(h7:List.Nodup X.N)(h8:X.N[i]?=some x)(h9:Loc X.env.scope x)(h10:QE X e te)(h11:autoParam (swapsWith e (some (Expr.Name x pos')) pos.line X.env=pure false) qau._auto_1)(h12:autoParam (X.fn x=true \/ List.lookup x X.env.scope.names=some NameKind.local) qau._auto_1):QS X (Stmt.Assign [Expr.Name x pos'] e pos) (tD te (iw i)):=⟨Ee h7 h8 h9 h10.out h11 h12⟩
theorem bg(h8:QT X c tc)(h9:QSs X a t)(h10:QSs X b u):QS X (Stmt.If c a b pos) (Eo tc t u):=⟨E4 h8.out h9.out h10.out⟩
theorem aM(h4:QE X e te):QS X (Stmt.Return (some e) pos) (xS te):=⟨C8 h4.out⟩
theorem qj{X:Cx}{pos:Pos}(h4:QE X e te)(h5:autoParam (swapsWith e none pos.line X.env=pure false) qau._auto_1):QS X (Stmt.Expr e pos) (qU te):=⟨Bj h4.out h5⟩
theorem uM{X:Cx}(h6:PassesOwn (model X.prog X.w) X.A X.env X.xe)(h7:QT X c tc)(h8:QSs X body tb):QS X (Stmt.While c body [] pos) (vY tc tb):=⟨yw h6 h7.out h8.out⟩
theorem hX{X:Cx}(h8:PassesOwn (model X.prog X.w) X.A X.env X.xe)(h9:X.calm=true)(h10:QI X tg iter wi)(h11:QG X tg g)(h12:QSs X body tb)(h13:autoParam (∀(x:Value),foldedSetIterable iter X.env x=pure x) qau._auto_1):QS X (Stmt.For tg iter body [] pos) (zo wi g tb):=⟨DX h8 h9 h10.out h11.out h12.out h13⟩
theorem eV{X:Cx}(h4:List.Nodup X.N)(h5:X.N[i]?=some x)(h6:Loc X.env.scope x)(h7:autoParam (X.fn x=true \/ List.lookup x X.env.scope.names=some NameKind.local) qau._auto_1):QG X (Expr.Name x pos) (iw i):=⟨AW h4 h5 h6 h7⟩
theorem aL:QSs X [] zF:=⟨Bk ⟩
theorem aw{X:Cx}{st:Stmt}{t:TS}(h3:QS X st t):QSs X [st] t:=⟨Bw h3.out⟩
theorem au{X:Cx}{st:Stmt}{rest:List Stmt}{t:TS}{u:TS}(h5:QS X st t)(h6:QSs X rest u):QSs X (st ::rest) (Ek t u):=⟨zN h5.out h6.out⟩
end L2.E
namespace L2.P
open PySem PySem.Spec PyProof.Rows L2 L2.E
theorem hU{K:PySem.W.Frag}{cls:String->Option Addr}{P:Program}{w:World}{mg:Str->Option Value}{base:Heap}{x qual:Str}{st:Stmt}{f:Addr}{fd:FuncData}{N ps:List Str}{k:Nat}{m:ah->OS}(F:Fun K x qual st f fd)(Sc:bu N ps (aJ st))
  (hbody:∀(cdv:Value) (A:Around) (outer:List Env) (s:Shared) (H:Hp) (E:XK),ip k (A.deeper (envOfC qual (aJ st) s.heap.objs.size f cdv)) ->
    ∃ t,QSs (n8 (CXE P w) P w K mg base N qual (aJ st) f cdv A outer s H E) (eU st) t /\ JS K cls (fun C a _ H=>∀ H',aD H H'->E C a H') t m):cn P w K mg base (CXE P w) (k+1) f fd ps (spP K cls (fnP ps.length N.length m)):=
 G4 F Sc fun cdv A outer s H E hr=>let ⟨t,h1,h2⟩:=hbody cdv A outer s H E hr;⟨t,h1.out,h2⟩
end L2.P
namespace L2.E
open PySem PySem.Spec PyProof.Rows L2
section
variable{X:Cx}
theorem yK{x:V}{v:Value}{b:Bool}(r:RelV x v):(v==Value.bool b)=decide (x=.bl b):=by
 cases x<;>first
  |(cases r;cases b<;>rfl)
  |(obtain⟨t,rfl⟩:=r;cases b<;>rfl)
  |(rename_i c;cases r;cases c<;>cases b<;>rfl)
theorem vt{x:V}{v:Value}{b:Bool}(r:RelV x v):plainIs v (.bool b)=true:=by
 cases x<;>first
  |(cases r;rfl)
  |(obtain⟨t,rfl⟩:=r;rfl)
theorem zW:OpR X (compareOp .Is) (fun x y H Q=>∃ b,y=.bl b /\ Q (.bl (decide (x=.bl b))) H):=by
 intro pins s σ H x y v u Q I rx ry h;obtain⟨b,rfl,q⟩:=h;cases ry;refine wpAny_is_plain (vt rx) ?_;rw[yK rx]
 exact⟨.bl _,H,I,rfl,q⟩
end
end L2.E
namespace L2.P
open PySem PySem.Spec PyProof.Rows L2 L2.E
section
variable{K:PySem.W.Frag}{S H:Hp}
theorem AQ{x:PV}{v:V}{b:Bool}(h:RdV K S H x v):decide (v=.bl b)=wd b x:=by
 cases x with
 |non=>rw[gA h];rfl
 |bl c=>rw[jA h];cases b<;>cases c<;>rfl
 |int c=>rw[de h];rfl
 |str c=>rw[gV h];rfl
 |lst xs=>obtain⟨p,vs,rfl,_⟩:=js h;rfl
 |tup xs=>obtain⟨p,vs,rfl,_⟩:=fM h;rfl
theorem y9:JR K (fun x y H Q=>∃ b,y=.bl b /\ Q (.bl (decide (x=.bl b))) H) Ag:=by
 intro S H x y v u rr Q I hx hy e k;unfold Ag at e;split at e
 . rename_i b;cases e
   exact⟨b,jA hy,k _ S H (aZ.refl I) (by rw[AQ hx];exact i3)⟩
 . cases e
end
end L2.P
namespace L2.E
open PySem PySem.Spec PyProof.Rows L2
section
variable{prog:Program}{w:World}{A:Around}{E:Value->Shared->Prop}{s:Shared}{K:PySem.W.Frag}{x C:Addr}{name:Str}{v:Value}
open PySem.W in
open PySem.W in
end
noncomputable def EU(a C:Addr)(dx:Option Addr)(h:Heap):Prop:=∃ o t,h.get? a=some o /\ o.cls=.ref C /\ o.dict=dx /\ o.data=.fields #[.ref t,.none,.none,.none,.bool false,.none]
theorem EU.exc{a C:Addr}{dx:Option Addr}{h:Heap}(x:EU a C dx h):Es a C dx h:=let ⟨o,t,e,c,d,f⟩:=x;⟨o,_,e,c,d,f,rfl⟩
section
variable{prog:Program}{w:World}{A:Around}{E:Value->Shared->Prop}{s:Shared}{K:PySem.W.Frag}{x C:Addr}{name:Str}{v:Value}{tk:Tok}
open PySem.W in
end
section
variable{prog:Program}{w:World}{A:Around}{E:Value->Shared->Prop}{hh:Heap}{g:Array GenState}{d:Drawn}{t:Nat}{os:OsState}{K:PySem.W.Frag}{x C:Addr}{name:Str}{v:Value}{tk:Tok}
open PySem.W in
end
section
variable{prog:Program}{w:World}{A:Around}{E:Value->Shared->Prop}{s:Shared}{K:PySem.W.Frag}{x C:Addr}{name:Str}{v:Value}
open PySem.W in
end
section
variable{prog:Program}{w:World}{A:Around}{E:Value->Shared->Prop}{h:Heap}{g:Array GenState}{d:Drawn}{t:Nat}{os:OsState}{K:PySem.W.Frag}
variable{nm q:Str}{C N:Addr}{bs bm bmB:List Value}{hdct:Bool}{sn:List Str}{sub:List Value}{ab:Bool}{col:Option Bool}{dd:Option Addr}{k0 k1 k2 k3 k5:Option Value}{B newId initId:String}
open PySem.W in
open PySem.W in
end
end L2.E
namespace L2.P
open PySem PySem.Spec PyProof.Rows L2 L2.E
end L2.P
namespace L2.P
open PySem
inductive Stp where
 |ix (k:Nat)|fd (f:Str)
noncomputable def si:List Str->List OV->Str->Option OV
 |k ::ks,t ::ts,f=>if k=f then some t else si ks ts f
 |_,_,_=>none
noncomputable def Ah:List Str->List OV->Str->OV->List OV
 |k ::ks,t ::ts,f,u=>if k=f then u ::ts else t ::Ah ks ts f u
 |_,ts,_,_=>ts
noncomputable def OV.at1:OV->Stp->Option OV
 |.ol ts,.ix k=>ts[k]?
 |.ob _ ks ts,.fd f=>si ks ts f
 |_,_=>none
noncomputable def OV.zy:OV->Stp->OV->OV
 |.ol ts,.ix k,u=>.ol (ts.set k u)
 |.ob c ks ts,.fd f,u=>.ob c ks (Ah ks ts f u)
 |t,_,_=>t
noncomputable def OV.get:OV->List Stp->Option OV
 |t,[]=>some t
 |t,s ::π=>(t.at1 s).bind fun u=>u.get π
noncomputable def OV.put:OV->List Stp->OV->OV
 |_,[],u=>u
 | t,s ::π,u=>match t.at1 s with
   |some t'=>t.zy s (t'.put π u)
   |none=>t
noncomputable def slT:Sl->Option OV
 |.tr _ t=>some t
 |.bo t=>some t
 |_=>none
noncomputable def dP(i:Nat)(ρ:ah):Option OV:=match ρ[i]? with
 |some (some s)=>slT s
 |_=>none
abbrev MP:=ah->Option (List Stp)
noncomputable def bL:MP:=fun _=>some []
noncomputable def pIx(i:Nat)(mp:MP)(mk:ah->OE):MP:=fun ρ=>match dP i ρ with
 | some t=>(match mp ρ with
   | some π=>(match t.get π with
     | some (.ol ts)=>(match mk ρ with
       | .ok r=>(match r.pv with
         |.int k=>(ixP ts.length k).map fun j=>π++[.ix j]
         |_=>none)
       |_=>none)
     |_=>none)
   |none=>none)
 |none=>none
noncomputable def subAt(i:Nat)(mp:MP)(ρ:ah):Option OV:=match dP i ρ with
 | some t=>(match mp ρ with
   |some π=>t.get π
   |none=>none)
 |none=>none
noncomputable def uT:List OV->Option (List PV)
 |[]=>some []
 |.sh x ::r=>(uT r).map (x ::·)
 |_ ::_=>none
@[simp] theorem xJ(xs:List PV):uT (xs.map .sh)=some xs:=by
  induction xs with
  |nil=>rfl
  |cons x xs ih=>show(uT (xs.map .sh)).map (x ::·)=_;rw[ih];rfl
noncomputable def jH(i:Nat)(mp:MP):ah->OE:=fun ρ=>match subAt i mp ρ with
 |some (.sh x)=>.ok (.sh x)
 | some (.ol ts)=>(match uT ts with
   |some xs=>.ok (.al xs)
   |none=>.bad)
 |_=>.bad
noncomputable def dW(i:Nat)(mp:MP):ah->OT:=fun ρ=>match subAt i mp ρ with
 |some (.ol ts)=>.ok (!ts.isEmpty)
 |_=>.bad
noncomputable def pN(i:Nat)(mp:MP):ah->OE:=fun ρ=>match subAt i mp ρ with
 |some (.ol ts)=>.ok (.sh (.int ts.length))
 |_=>.bad
inductive OD where
 |ok (t:OV)|exc (c:String) (fs:XF)|bad
inductive ODs where
 |ok (ts:List OV)|exc (c:String) (fs:XF)|bad
noncomputable def mD(me:ah->OE):ah->OD:=fun ρ=>match me ρ with
 |.ok (.sh x)=>.ok (.sh x)
 |.ok (.fr xs)=>.ok (.ol (xs.map .sh))
 |.ok (.al _)=>.bad
 |.exc c fs=>.exc c fs
 |.bad=>.bad
noncomputable def mDn:ah->ODs:=fun _=>.ok []
noncomputable def mDc(md:ah->OD)(mr:ah->ODs):ah->ODs:=fun ρ=>match md ρ with
 | .ok t=>(match mr ρ with
   |.ok ts=>.ok (t ::ts)
   |.exc c fs=>.exc c fs
   |.bad=>.bad)
 |.exc c fs=>.exc c fs
 |.bad=>.bad
noncomputable def mDl(mr:ah->ODs):ah->OD:=fun ρ=>match mr ρ with
 |.ok ts=>if ts.length<=lim then .ok (.ol ts)else .bad
 |.exc c fs=>.exc c fs
 |.bad=>.bad
noncomputable def pV(i:Nat)(md:ah->OD):ah->OS:=fun ρ=>match md ρ with
 |.ok t=>.nx (ρ.set i (some (.tr false t)))
 |.exc c fs=>.exc ρ c fs
 |.bad=>.bad
noncomputable def sP(i:Nat)(mp:MP)(ρ:ah)(k:OV->(OV->ah)->OS):OS:=match ρ[i]? with
 | some (some (.tr io t))=>(match mp ρ with
   | some π=>(match t.get π with
     |some u=>k u fun u'=>ρ.set i (some (.tr io (t.put π u')))
     |none=>.bad)
   |none=>.bad)
 |_=>.bad
noncomputable def fZ(i:Nat)(mp:MP)(md:ah->OD):ah->OS:=fun ρ=>sP i mp ρ fun u put=>match u with
 | .ol ts=>(match md ρ with
   |.ok x=>if ts.length<lim then .nx (put (.ol (ts++[x])))else .bad
   |.exc c fs=>.exc ρ c fs
   |.bad=>.bad)
 |_=>.bad
inductive OX where
 |ok (ρ:ah) (s:Sl)|exc (ρ:ah) (c:String) (fs:XF)|bad
noncomputable def slO:OV->Sl
 |.sh x=>.sh x
 |t=>.tr false t
noncomputable def qH(i:Nat)(mp:MP):ah->OX:=fun ρ=>match ρ[i]? with
 | some (some (.tr io t))=>(match mp ρ with
   | some π=>(match t.get π with
     | some (.ol ts)=>(match ts.getLast? with
       |some x=>.ok (ρ.set i (some (.tr io (t.put π (.ol ts.dropLast))))) (slO x)
       |none=>.bad)
     |_=>.bad)
   |none=>.bad)
 |_=>.bad
noncomputable def nio:Sl->Bool
 |.tr true _=>false
 |.bo _=>false
 |_=>true
noncomputable def jF(i:Nat)(m:ah->OX):ah->OS:=fun ρ=>match m ρ with
 |.ok ρ' s=>if nio s then .nx (ρ'.set i (some s))else .bad
 |.exc ρ' c fs=>.exc ρ' c fs
 |.bad=>.bad
noncomputable def gH(m:ah->OX):ah->OS:=fun ρ=>match m ρ with
 |.ok ρ' _=>.nx ρ'
 |.exc ρ' c fs=>.exc ρ' c fs
 |.bad=>.bad
mutual
noncomputable def pvO:OV->Option PV
 |.sh x=>some x
 |.ol ts=>(Fo ts).map .lst
 |.ob _ _ _=>none
 |.di _=>none
 |.dt _=>none
noncomputable def Fo:List OV->Option (List PV)
 |[]=>some []
 |t ::ts=>(pvO t).bind fun x=>(Fo ts).map (x ::·)
end
noncomputable def FF(i:Nat)(ρ:ah):ah:=match ρ[i]? with
 | some (some (.tr false t))=>(match pvO t with
   |some x=>ρ.set i (some (.sh x))
   |none=>ρ)
 |_=>ρ
inductive OI where
 |ok (x:PV) (outs:List (Option OV))|exc (c:String) (fs:XF) (outs:List (Option OV))|bad
inductive Arg where
 |e (me:ah->OE)|t (i:Nat) (mp:MP)|b (i:Nat) (mp:MP)
noncomputable def nM:Option Sl->Option OV
 |some (.tr true t)=>some t
 |_=>none
noncomputable def p9(np:Nat):OS->OI
 |.nx ρ=>.ok .non ((ρ.take np).map nM)
 |.rt ρ (.sh x)=>.ok x ((ρ.take np).map nM)
 |.exc ρ c fs=>.exc c fs ((ρ.take np).map nM)
 |_=>.bad
noncomputable def kY(n:Nat)(as:List Sl):ah:=as.map some++List.replicate (n - as.length) none
noncomputable def fnI(np n:Nat)(m:ah->OS)(as:List Sl):OI:=if as.length=np then p9 np (m (kY n as))else .bad
noncomputable def rG(a:Arg)(ρ:ah):Option Sl:=match a with
 | .e me=>(match me ρ with
   |.ok r=>(jD r).map .sh
   |_=>none)
 | .t i mp=>(match ρ[i]? with
   |some (some (.tr _ t))=>((mp ρ).bind fun π=>t.get π).map (.tr true)
   |_=>none)
 |.b i mp=>(subAt i mp ρ).map .bo
noncomputable def kJ:List Arg->ah->Option (List Sl)
 |[],_=>some []
 |a ::as,ρ=>(rG a ρ).bind fun s=>(kJ as ρ).map (s ::·)
noncomputable def g4(ρ₀:ah):Arg->Option OV->ah->ah
 | .t i mp,some u,ρ=>(match ρ[i]? with
   | some (some (.tr io t))=>(match mp ρ₀ with
     |some π=>ρ.set i (some (.tr io (t.put π u)))
     |none=>ρ.set i none)
   |_=>ρ.set i none)
 |.t i _,none,ρ=>ρ.set i none
 |_,_,ρ=>ρ
noncomputable def dX(ρ₀:ah):List Arg->List (Option OV)->ah->ah
 |[],_,ρ=>ρ
 |a ::as,us,ρ=>dX ρ₀ as us.tail (g4 ρ₀ a us.head?.join ρ)
noncomputable def ef(f:List Sl->OI)(as:List Arg):ah->OX:=fun ρ=>match kJ as ρ with
 | some ss=>(match f ss with
   |.ok x outs=>.ok (dX ρ as outs ρ) (.sh x)
   |.exc c fs outs=>.exc (dX ρ as outs ρ) c fs
   |.bad=>.bad)
 |none=>.bad
noncomputable def Hh(c:String)(f:List Sl->OI):ah->OD:=fun _=>match f [.tr true (.ob c [] [])]with
 |.ok .non (some t ::_)=>.ok t
 |_=>.bad
noncomputable def fQ(i j:Nat)(mb:ah->OS):List PV->ah->OS
 |[],ρ=>.nx ρ
 |.tup [x,y] ::xs,ρ=>(mb ((ρ.set i (some (.sh x))).set j (some (.sh y)))).turn (fQ i j mb xs)
 |_ ::_,_=>.bad
noncomputable def E8(k:Nat):List PV->List PV
 |[]=>[]
 |x ::xs=>.tup [.int k,x] ::E8 (k+1) xs
noncomputable def qC(ml:ah->OE)(ι:List Nat)(me:ah->OE):ah->OE:=fun ρ=>(ml ρ).bind fun r=>match r.pv with
 |.tup xs=>noX (cf me (dg ι ρ) xs)
 |_=>.bad
noncomputable def fo(mc:ah->OT)(me:ah->OE)(ρ:ah):List PV->OA
 |[]=>.ok []
 | x ::xs=>(match mc (ρ++[some (.sh x)])with
   | .ok true=>(me (ρ++[some (.sh x)])).ee fun r=>(match jD r with
     |some y=>(fo mc me ρ xs).ee fun ys=>.ok (y ::ys)
     |none=>.bad)
   |.ok false=>fo mc me ρ xs
   |_=>.bad)
noncomputable def EW(ml:ah->OE)(ι:List Nat)(mc:ah->OT)(me:ah->OE):ah->OE:=fun ρ=>(ml ρ).bind fun r=>match r.pv with
 |.lst xs=>noX (fo mc me (dg ι ρ) xs)
 |_=>.bad
noncomputable def ly(ml:ah->OE)(ι:List Nat)(mc:ah->OT)(me:ah->OE):ah->OE:=fun ρ=>(ml ρ).bind fun r=>match r.pv with
 |.tup xs=>noX (fo mc me (dg ι ρ) xs)
 |_=>.bad
noncomputable def fE:PV->Option RV
 |.lst xs=>some (.sh (.tup xs))
 |.tup xs=>some (.sh (.tup xs))
 |_=>none
noncomputable def Cb:PV->PV->Option RV
 |.tup (x ::xs),.tup ys=>if(x ::xs).length+ys.length<=lim then some (.sh (.tup (x ::xs++ys)))else none
 |_,_=>none
mutual
noncomputable def bI:PV->PV->Bool
 |.non,y=>(match y with|.non=>true|_=>false)
 |.bl a,y=>(match y with|.bl b=>a==b|.int j=>(if a then 1 else 0)==j|_=>false)
 |.int i,y=>(match y with|.bl b=>i==(if b then 1 else 0)|.int j=>i==j|_=>false)
 |.str x,y=>(match y with|.str z=>x==z|_=>false)
 |.lst xs,y=>(match y with|.lst ys=>jG xs ys|_=>false)
 |.tup xs,y=>(match y with|.tup ys=>jG xs ys|_=>false)
noncomputable def jG:List PV->List PV->Bool
 |[],ys=>(match ys with|[]=>true|_ ::_=>false)
 |x ::xs,ys=>(match ys with|y ::ys=>bI x y&&jG xs ys|[]=>false)
end
mutual
noncomputable def bK:PV->Nat->Bool
 |.str x,_=>x.cps.all (·<0x110000)
 |.lst xs,n=>(match n with|0=>false|n+1=>iu xs n)
 |.tup xs,n=>(match n with|0=>false|n+1=>iu xs n)
 |_,_=>true
noncomputable def iu:List PV->Nat->Bool
 |[],_=>true
 |x ::xs,n=>bK x n&&iu xs n
end
noncomputable def bM:PV->PV->Option RV:=fun x y=>if(bK x 64&&bK y 64)=true then some (.sh (.bl (bI x y)))else none
noncomputable def jg:PV->PV->Option RV:=fun x y=>if(bK x 64&&bK y 64)=true then some (.sh (.bl (!bI x y)))else none
theorem rp(ns:List Int):∀ ms:List Int,jG (ns.map .int) (ms.map .int)=decide (ns=ms):=by
 induction ns with
 |nil=>intro ms;cases ms<;>simp[jG]
 | cons n ns ih=>
   intro ms
   cases ms with
   |nil=>simp[jG]
   |cons m ms=>simp[jG,bI,ih,Bool.beq_eq_decide_eq]
theorem ic(ns:List Int)(n:Nat):iu (ns.map .int) n=true:=by
 induction ns with
 |nil=>simp[iu]
 |cons n ns ih=>simp[iu,bK,ih]
noncomputable def g9:PV->Bool
 |.lst _=>false
 |.tup _=>false
 |_=>true
noncomputable def uj:PV->PV->Option Bool
 |x,.tup ys=>if ys.all g9=true then some (ys.any fun y=>bI y x)else none
 |x,.lst ys=>if ys.all g9=true then some (ys.any fun y=>bI y x)else none
 |_,_=>none
noncomputable def gIn:PV->PV->Option RV:=fun x y=>(uj x y).map fun b=>.sh (.bl b)
noncomputable def jJ:RV->Option (List PV)
 |.sh (.lst xs)=>some xs
 |.sh (.tup xs)=>some xs
 |.fr xs=>some xs
 |_=>none
noncomputable def gP(i:Nat)(ml:ah->OE)(mb:ah->OS):ah->OS:=fun ρ=>(ml ρ).bU ρ fun r=>match jJ r with
 |some xs=>cG i mb xs ρ
 |none=>.bad
noncomputable def iP(i j:Nat)(ml:ah->OE)(mb:ah->OS):ah->OS:=fun ρ=>(ml ρ).bU ρ fun r=>match jJ r with
 |some xs=>fQ i j mb xs ρ
 |none=>.bad
end L2.P
namespace L2
open PySem PySem.Spec PyProof.Rows
end L2
namespace L2.P
open PySem PySem.Spec PyProof.Rows L2 L2.E PySem.SeqAt
mutual
noncomputable def dOf:PV->PyData
 |.non=>.none
 |.bl b=>.bool b
 |.int i=>.int i
 |.str x=>.str x
 |.lst xs=>.list (n5 xs)
 |.tup xs=>.tuple (n5 xs)
noncomputable def n5:List PV->List PyData
 |[]=>[]
 |x ::xs=>dOf x ::n5 xs
end
mutual
theorem nX:∀ x y:PV,PyData.eqv (dOf x) (dOf y)=bI x y
 |.non,y=>by cases y<;>simp[dOf,PyData.eqv,bI]
 |.bl a,y=>by cases y<;>simp[dOf,PyData.eqv,bI]
 |.int a,y=>by cases y<;>simp[dOf,PyData.eqv,bI]
 |.str a,y=>by cases y<;>simp[dOf,PyData.eqv,bI]
 |.lst xs,y=>by cases y<;>simp[dOf,PyData.eqv,bI,rk xs]
 |.tup xs,y=>by cases y<;>simp[dOf,PyData.eqv,bI,rk xs]
theorem rk:∀ xs ys:List PV,PyData.eqvAll (n5 xs) (n5 ys)=jG xs ys
 |[],ys=>by cases ys<;>simp[n5,PyData.eqvAll,jG]
 |x ::xs,ys=>by cases ys<;>simp[n5,PyData.eqvAll,jG,nX x,rk xs]
end
mutual
theorem m9:∀(x:PV) (n:Nat),bK x n=true->(dOf x).canLay0=true /\ (dOf x).depth<=n
 |.non,n,h=>by simp[dOf,PyData.canLay0,PyData.depth]
 |.bl a,n,h=>by simp[dOf,PyData.canLay0,PyData.depth]
 |.int a,n,h=>by simp[dOf,PyData.canLay0,PyData.depth]
 |.str a,n,h=>by simp[dOf,PyData.canLay0,PyData.depth];exact h
 | .lst xs,n,h=>by
   cases n with
   |zero=>simp[bK]at h
   | succ n=>
     have:=tH xs n (by simpa [bK]using h);simp[dOf,PyData.canLay0,PyData.depth]
     exact⟨this.1,by omega⟩
 | .tup xs,n,h=>by
   cases n with
   |zero=>simp[bK]at h
   | succ n=>
     have:=tH xs n (by simpa [bK]using h);simp[dOf,PyData.canLay0,PyData.depth]
     exact⟨this.1,by omega⟩
theorem tH:∀(xs:List PV) (n:Nat),iu xs n=true->PyData.canLayAll0 (n5 xs)=true /\ PyData.depthAll (n5 xs)<=n
 |[],n,h=>by simp[n5,PyData.canLayAll0,PyData.depthAll]
 | x ::xs,n,h=>by
   simp[iu]at h;have h1:=m9 x n h.1;have h2:=tH xs n h.2;simp[n5,PyData.canLayAll0,PyData.depthAll]
   exact⟨⟨h1.1,h2.1⟩,by omega⟩
end
section
variable{X:Cx}{pins:List (Addr×Obj)}{σ:St}{H:Hp}{s:Shared}
mutual
theorem gY(I:Inv X pins σ H s):∀(x:PV) (v:V) (u:Value),Rep X.K H x v->RelV v u->∃ as,Reads s.heap u (dOf x) as
 |.non,v,u,h,r=>by unfold Rep at h;subst h;cases r;exact⟨_,.none⟩
 |.bl b,v,u,h,r=>by unfold Rep at h;subst h;cases r;exact⟨_,.bool b⟩
 |.int i,v,u,h,r=>by unfold Rep at h;subst h;obtain⟨t,rfl⟩:=r;exact⟨_,.int i t⟩
 |.str x,v,u,h,r=>by unfold Rep at h;subst h;obtain⟨t,rfl⟩:=r;exact⟨_,.str x t⟩
 | .lst xs,v,u,h,r=>by
   unfold Rep at h;obtain⟨p,vs,rfl,hq,hr⟩:=h;cases r;obtain⟨its,rv,pl,hz⟩:=I.list hq;obtain⟨as,ra⟩:=lp I xs vs its hr rv;obtain⟨o,e,c,n,d⟩:=pl.isList
   exact⟨_,.list (xs:=n5 xs) e c d (by simpa using ra)⟩
 | .tup xs,v,u,h,r=>by
   unfold Rep at h;obtain⟨p,vs,rfl,hq,hr⟩:=h;cases r;obtain⟨its,rv,pl,hz⟩:=I.tuple hq;obtain⟨as,ra⟩:=lp I xs vs its hr rv;obtain⟨o,e,c,n,d⟩:=pl
   exact⟨_,.tuple (xs:=n5 xs) e c d (by simpa using ra)⟩
theorem lp(I:Inv X pins σ H s):∀(xs:List PV) (vs:List V) (us:List Value),bA X.K H xs vs->Vals vs us->∃ as,ReadsAll s.heap us (n5 xs) as
 |[],vs,us,h,r=>by rw[h.nil_inv]at r;cases r;exact⟨_,.nil⟩
 | x ::xs,vs,us,h,r=>by
   obtain⟨v,t,rfl,h1,h2⟩:=h.cons_inv
   cases r with
   | cons r1 r2=>
     obtain⟨as,ra⟩:=gY I x _ _ h1 r1;obtain⟨bs,rb⟩:=lp I xs _ _ h2 r2
     exact⟨_,.cons ra rb⟩
end
noncomputable def AO(K:PySem.W.Frag)(A:Around)(neg:Bool):R2:=fun v u H Q=>∃ x y,Rep K H x v /\ Rep K H y u /\ (bK x 64&&bK y 64)=true /\ A.units+64<cLine /\ Q (.bl (if neg then !bI x y else bI x y)) H
theorem lW{x:PV}(h:bK x 64=true):shaped (dOf x)=true:=by
 have:=m9 x 64 h;unfold shaped;simp[this]
theorem b9:OpR X (compareOp .Eq) (AO X.K X.A false):=by
 intro pins s σ H v u a b Q I rx ry h;obtain⟨x,y,h1,h2,ok,hu,q⟩:=h;rw[Bool.and_eq_true]at ok;obtain⟨as,ra⟩:=gY I x v a h1 rx;obtain⟨bs,rb⟩:=gY I y u b h2 ry;refine eq_dataH ra rb (lW ok.1) (lW ok.2) hu ⟨.bl _,H,I,rfl,?_⟩;rw[nX];exact q
theorem qI:OpR X (compareOp .NotEq) (AO X.K X.A true):=by
 intro pins s σ H v u a b Q I rx ry h;obtain⟨x,y,h1,h2,ok,hu,q⟩:=h;rw[Bool.and_eq_true]at ok;obtain⟨as,ra⟩:=gY I x v a h1 rx;obtain⟨bs,rb⟩:=gY I y u b h2 ry;refine ne_dataH ra rb (lW ok.1) (lW ok.2) hu ⟨.bl _,H,I,rfl,?_⟩;rw[nX];exact q
end
section
variable{K:PySem.W.Frag}{S H:Hp}
theorem RdV.rep{x:PV}{v:V}(h:RdV K S H x v)(s:aD S H):Rep K H x v:=by
 cases x with
 |lst xs=>obtain⟨p,vs,e,q,r⟩:=h;unfold Rep;exact⟨p,vs,e,q,r.mono s⟩
 |non=>exact Rep.mono s h
 |bl b=>exact Rep.mono s h
 |int i=>exact Rep.mono s h
 |str x=>exact Rep.mono s h
 |tup xs=>exact Rep.mono s h
theorem cb{A:Around}(hu:A.units+64<cLine):JR K (AO K A false) bM:=by
 intro S H x y v u rr Q I hx hy e k;unfold bM at e;split at e
 . rename_i ok;cases e
   exact⟨x,y,hx.rep I,hy.rep I,ok,hu,k _ S H (aZ.refl I) i3⟩
 . cases e
theorem qN{A:Around}(hu:A.units+64<cLine):JR K (AO K A true) jg:=by
 intro S H x y v u rr Q I hx hy e k;unfold jg at e;split at e
 . rename_i ok;cases e
   exact⟨x,y,hx.rep I,hy.rep I,ok,hu,k _ S H (aZ.refl I) i3⟩
 . cases e
end
section
variable{X:Cx}{K:PySem.W.Frag}{S H:Hp}
theorem u0{x:PV}{v:V}(h:Rep K H x v)(f:g9 x=true):mN v=true:=by
 cases x with
 |lst xs=>cases f
 |tup xs=>cases f
 |non=>unfold Rep at h;subst h;rfl
 |bl b=>unfold Rep at h;subst h;rfl
 |int b=>unfold Rep at h;subst h;rfl
 |str b=>unfold Rep at h;subst h;rfl
theorem BL{x y:PV}{v u:V}(h:Rep K H x v)(k:Rep K H y u)(f:g9 x=true)(g:g9 y=true):eqV u v=bI y x:=by
 cases x<;>first|(cases f;done)|skip
 all_goals(unfold Rep at h;subst h;cases y<;>first|(cases g;done)|(unfold Rep at k;subst k;simp[eqV,bI]))
theorem yf{xs:List PV}{vs:List V}(h:bA K H xs vs)(f:xs.all g9=true):vs.all mN=true:=by
 induction xs generalizing vs with
 |nil=>rw[h.nil_inv];rfl
 | cons x xs ih=>
   obtain⟨v,r,rfl,h1,h2⟩:=h.cons_inv
   rw[List.all_cons,Bool.and_eq_true]at f ⊢
   exact⟨u0 h1 f.1,ih h2 f.2⟩
theorem zH{x:PV}{v:V}{xs:List PV}{vs:List V}(hx:Rep K H x v)(g:g9 x=true)(h:bA K H xs vs)(f:xs.all g9=true):inV v vs=xs.any fun y=>bI y x:=by
 induction xs generalizing vs with
 |nil=>rw[h.nil_inv];rfl
 | cons y xs ih=>
   obtain⟨u,r,rfl,h1,h2⟩:=h.cons_inv;rw[List.all_cons,Bool.and_eq_true]at f;have:=ih h2 f.2
   unfold inV at this ⊢
   rw[List.any_cons,List.any_cons,this,BL hx h1 g f.1]
theorem zP{x:PV}{xs:List PV}(g:g9 x=false)(f:xs.all g9=true):(xs.any fun y=>bI y x)=false:=by
 induction xs with
 |nil=>rfl
 | cons y xs ih=>
   rw[List.all_cons,Bool.and_eq_true]at f;rw[List.any_cons,ih f.2,Bool.or_false];have f1:=f.1
   cases y<;>first|(cases f1;done)|(cases x<;>first|(cases g;done)|simp[bI])
theorem yX{α:Type}(l:List α):(l.any fun _=>false)=false:=by induction l<;>simp_all
theorem um{A:Around}{s:Shared}{pins:List (Addr×Obj)}{σ:St}(I:Inv X pins σ H s)(hu:A.units<cLine){x:PV}{v:V}{a:Value}(hx:Rep X.K H x v)(ra:RelV v a)(g:g9 x=false):
  ∀{xs:List PV} {vs:List V} {us:List Value},bA X.K H xs vs->Vals vs us->xs.all g9=true->∀ u∈us,EqAt A s u a false:=by
 intro xs
 induction xs with
 |nil=>intro vs us h r _ u hu;rw[h.nil_inv]at r;cases r;cases hu
 | cons y xs ih=>
   intro vs us h r f u hm;obtain⟨w,t,rfl,h1,h2⟩:=h.cons_inv;rw[List.all_cons,Bool.and_eq_true]at f
   cases r with
   | cons r1 r2=>
     rcases List.mem_cons.mp hm with rfl|hm
     . cases x with
       |non=>cases g
       |bl b=>cases g
       |int b=>cases g
       |str b=>cases g
       | lst zs=>
         unfold Rep at hx;obtain⟨p,us',rfl,hq,_⟩:=hx;cases ra;obtain⟨its,_,pl,_⟩:=I.list hq
         cases y with
         |non=>unfold Rep at h1;subst h1;cases r1;exact EqAt.none_list pl.isList hu
         |bl b=>unfold Rep at h1;subst h1;cases r1;exact EqAt.bool_list b pl.isList hu
         |int b=>unfold Rep at h1;subst h1;obtain⟨t',rfl⟩:=r1;exact EqAt.int_list b t' pl.isList hu
         |str b=>unfold Rep at h1;subst h1;obtain⟨t',rfl⟩:=r1;exact EqAt.str_list b t' pl.isList hu
         |lst _=>cases f.1
         |tup _=>cases f.1
       | tup zs=>
         unfold Rep at hx;obtain⟨p,us',rfl,hq,_⟩:=hx;cases ra;obtain⟨its,_,pl,_⟩:=I.tuple hq
         cases y with
         |non=>unfold Rep at h1;subst h1;cases r1;exact EqAt.none_tuple pl hu
         |bl b=>unfold Rep at h1;subst h1;cases r1;exact EqAt.bool_tuple b pl hu
         |int b=>unfold Rep at h1;subst h1;obtain⟨t',rfl⟩:=r1;exact EqAt.int_tuple b t' pl hu
         |str b=>unfold Rep at h1;subst h1;obtain⟨t',rfl⟩:=r1;exact EqAt.str_tuple b t' pl hu
         |lst _=>cases f.1
         |tup _=>cases f.1
     . exact ih h2 r2 f.2 u hm
noncomputable def Et(K:PySem.W.Frag)(A:Around)(neg:Bool):R2:=fun v u H Q=>∃ x ys p vs,Rep K H x v /\ u=.ref p /\ (SqL K H p vs \/ SqT K H p vs) /\ bA K H ys vs /\ ys.all g9=true /\ A.units+64<cLine /\ Q (.bl (if neg then !(ys.any fun y=>bI y x)else ys.any fun y=>bI y x)) H
theorem Ef:OpR X (compareOp .In) (Et X.K X.A false):=by
 intro pins s σ H v u a b Q I rx ry h;obtain⟨x,ys,p,vs,hx,rfl,hq,hr,hf,hu,q⟩:=h
 cases g:g9 x with
 |true=>exact x8 pins s σ H v _ a b Q I rx ry ⟨p,vs,rfl,hq,u0 hx g,yf hr hf,by rw[zH hx g hr hf];exact q⟩
 | false=>
   rw[zP g hf]at q;cases ry
   rcases hq with hq|hq
   . obtain⟨its,r,pl,hz⟩:=I.list hq;refine SeqAt.in_listAt (fun _=>false) pl.isList (fun w hw=>um I (by show X.A.units+1<cLine;omega) hx rx g hr r hf w (by simpa using hw)) ⟨.bl _,H,I,rfl,?_⟩;rw[show(its.toArray.any fun _=>false)=false by simp[yX]];exact q
   . obtain⟨its,r,pl,hz⟩:=I.tuple hq;refine SeqAt.in_tupleAt (fun _=>false) pl (fun w hw=>um I (by show X.A.units+1<cLine;omega) hx rx g hr r hf w (by simpa using hw)) ⟨.bl _,H,I,rfl,?_⟩;rw[show(its.toArray.any fun _=>false)=false by simp[yX]];exact q
theorem Aw{A:Around}{neg:Bool}{x y:PV}{v u:V}{b:Bool}{Q:VK}(hu:A.units+64<cLine)(I:aD S H)(hx:RdV K S H x v)(hy:RdV K S H y u)(e:uj x y=some b)(k:∀ z S' H',aZ S H S' H'->jr K H S' H' (.sh (.bl (if neg then !b else b))) z->Q z H'):Et K A neg v u H Q:=by
 cases y with
 | tup ys=>
   simp only[uj]at e
   by_cases hf:ys.all g9=true
   . rw[if_pos hf]at e;cases e;obtain⟨p,vs,rfl,hq,hr⟩:=fM hy
     exact⟨x,ys,p,vs,hx.rep I,rfl,.inr (aD.tup I hq),hr.mono I,hf,hu,k _ S H (aZ.refl I) i3⟩
   . rw[if_neg hf]at e;cases e
 | lst ys=>
   simp only[uj]at e
   by_cases hf:ys.all g9=true
   . rw[if_pos hf]at e;cases e;obtain⟨p,vs,rfl,hq,hr⟩:=js hy
     exact⟨x,ys,p,vs,hx.rep I,rfl,.inl hq,hr.mono I,hf,hu,k _ S H (aZ.refl I) i3⟩
   . rw[if_neg hf]at e;cases e
 |_=>simp only[uj]at e;cases e
theorem Fj{A:Around}(hu:A.units+64<cLine):JR K (Et K A false) gIn:=by
 intro S H x y v u rr Q I hx hy e k;obtain⟨b,e1,e2⟩:=Option.map_eq_some_iff.mp e;subst e2;exact Aw hu I hx hy e1 k
end
end L2.P
namespace L2.P
open PySem PySem.Spec PyProof.Rows L2 L2.E
section
variable{K:PySem.W.Frag}{cls:String->Option Addr}{W:XW}{Av G S₀ S S' H H' B B':Hp}{ρ:ah}{σ:St}{Q:VK}
noncomputable abbrev g2(K:PySem.W.Frag)(i j:Nat):TG:=Eh K 2 (wV (iw i) (wV (iw j) CT))
theorem vm{mb:ah->OS}{D:Ends}{N:St->Hp->Prop}(hb:JS K cls W tb mb)(I:SR K cls Av G S₀ ρ σ S H)(hx:Rep K S x v)(hy:Rep K S y u)(ht:SqT K H t [v,u])
  (p:fW K cls W Av G S₀ S D (fQ i j mb (.tup [x,y] ::xs) ρ)) (hN:∀ ρ' σ' S' H',SR K cls Av G S₀ ρ' σ' S' H'->aD S S'->fW K cls W Av G S₀ S' D (fQ i j mb xs ρ')->N σ' H'):
  g2 K i j (.ref t) σ H fun σ2 H2=>tb { D with nx:=N,ct:=N,bk:=D.nx } σ2 H2:=by
 refine⟨t,_,rfl,ht,rfl,_,_,rfl,_,_,rfl,rfl,?_⟩
 refine hb Av G S₀ _ _ S H _ ((I.wN hx).wN hy) ?_;unfold fQ at p
 cases e:mb ((ρ.set i (some (.sh x))).set j (some (.sh y)))with
 |nx ρ'=>rw[e]at p;exact fun σ' S' H' I' s'=>hN ρ' σ' S' H' I' s' (p.back s')
 |ct ρ'=>rw[e]at p;exact fun σ' S' H' I' s'=>hN ρ' σ' S' H' I' s' (p.back s')
 |bk ρ'=>rw[e]at p;exact p
 |rt ρ' r=>rw[e]at p;exact p
 |exc ρ' c fs=>rw[e]at p;exact p
 |bad=>rw[e]at p;exact p
end
end L2.P
namespace L2.E
open PySem PySem.Spec PyProof.Rows L2
structure QGs(X:Cx)(es:List Expr)(t:TGs):Prop where
 out:PGs X es t
theorem tJ:QGs X [] CT:=⟨BH⟩
theorem jI{X:Cx}(h1:QG X e t)(h2:QGs X es u)
  (hs:(assignEach (e ::es) X.env).map (·.2)=assign e X.env ::(assignEach es X.env).map (·.2):=by rfl):QGs X (e ::es) (wV t u):=⟨y7 h1.out h2.out hs⟩
theorem wj{X:Cx}(hc:X.calm=true)(h:QGs X es t)
  (hn:(assignEach es X.env).length=n:=by rfl) (hst:(assignEach es X.env).findIdx? (·.1)=none:=by rfl):QG X (.Tuple es k pos) (Eh X.K n t):=⟨CY hc h.out hn hst⟩
end L2.E
namespace L2.P
open PySem PySem.Spec PyProof.Rows L2 L2.E
section
variable{K:PySem.W.Frag}{cls:String->Option Addr}{W:XW}{Av G S₀ S S' H H' B B':Hp}{ρ:ah}{σ:St}{Q:VK}{F:Nat->List Addr}
theorem bz.length{ts:List OV}{vs:List V}(h:bz K cls S H ts vs f):vs.length=ts.length:=by
 induction ts generalizing vs f with
 |nil=>unfold bz at h;rw[h.1];rfl
 | cons t ts ih=>
   unfold bz at h;obtain⟨v,r,f1,f2,rfl,_,_,h2⟩:=h;simp[ih h2]
theorem bz.cons_inv(h:bz K cls S H (t ::ts) vs fp):∃ v r f1 f2,vs=v ::r /\ fp=f1++f2 /\ bG K cls S H t v f1 /\ bz K cls S H ts r f2:=by unfold bz at h;exact h
theorem bz.cons(h:bG K cls S H t v f1)(r:bz K cls S H ts vs f2):bz K cls S H (t ::ts) (v ::vs) (f1++f2):=by unfold bz;exact⟨v,vs,f1,f2,rfl,rfl,h,r⟩
theorem bz.nil:bz K cls S H [] [] []:=by unfold bz;exact⟨rfl,rfl⟩
theorem bz.append(h:bz K cls S H ts vs f)(k:bz K cls S H us ws g):bz K cls S H (ts++us) (vs++ws) (f++g):=by
 induction ts generalizing vs f with
 |nil=>unfold bz at h;rw[h.1,h.2];exact k
 | cons t ts ih=>
   obtain⟨v,r,f1,f2,rfl,rfl,h1,h2⟩:=h.cons_inv;have:=bz.cons h1 (ih h2);rw[List.append_assoc];exact this
theorem bz.shs{xs:List PV}(h:bA K S xs vs):bz K cls S H (xs.map .sh) vs []:=by
 induction xs generalizing vs with
 |nil=>rw[h.nil_inv];exact .nil
 | cons x xs ih=>
   obtain⟨v,r,rfl,h1,h2⟩:=h.cons_inv;exact bz.cons (f1:=[]) (by unfold bG;exact⟨rfl,h1⟩) (ih h2)
theorem bz.flat(e:uT ts=some xs)(h:bz K cls S H ts vs f):bA K S xs vs /\ f=[]:=by
 induction ts generalizing xs vs f with
 |nil=>cases e;unfold bz at h;rw[h.1,h.2];exact⟨.nil,rfl⟩
 | cons t ts ih=>
   cases t with
   | sh x=>
     obtain⟨ys,e1,e2⟩:=Option.map_eq_some_iff.mp e;subst e2;obtain⟨v,r,f1,f2,rfl,rfl,h1,h2⟩:=h.cons_inv;unfold bG at h1;obtain⟨h3,h4⟩:=ih e1 h2
     exact⟨.cons h1.2 h3,by rw[h1.1,h4];rfl⟩
   |ol _=>cases e
   |ob _ _ _=>cases e
   |di _=>cases e
   |dt _=>cases e
theorem bz.at{ts:List OV}{vs:List V}{f:List Addr}(h:bz K cls S H ts vs f)(e:ts[k]?=some u):
  ∃ w f1 rest,vs[k]?=some w /\ bG K cls S H u w f1 /\ f.Perm (f1++rest) /\
    ∀ S' H' u' w' f',aD S S'->bG K cls S' H' u' w' f'->(∀ a∈rest,∀ o,H a=some o->H' a=some o)->∃ g,bz K cls S' H' (ts.set k u') (vs.set k w') g /\ g.Perm (f'++rest):=by
 induction ts generalizing vs f k with
 |nil=>simp at e
 | cons t ts ih=>
   obtain⟨v,r,f1,f2,rfl,rfl,h1,h2⟩:=h.cons_inv
   cases k with
   | zero=>
     simp at e;subst e
     refine⟨v,f1,f2,rfl,h1,List.Perm.refl _,fun S' H' u' w' f' s r' g=>?_⟩
     exact⟨f'++f2,bz.cons r' (h2.mono s g),List.Perm.refl _⟩
   | succ k=>
     simp at e;obtain⟨w,g1,rest,e1,r1,p1,c1⟩:=ih h2 e
     refine⟨w,g1,f1++rest,by simpa using e1,r1,?_,fun S' H' u' w' f' s r' g=>?_⟩
     . have:(f1++f2).Perm (f1++(g1++rest)):=List.Perm.append_left f1 p1
       refine this.trans ?_;rw[<- List.append_assoc,<- List.append_assoc];exact List.Perm.append_right rest List.perm_append_comm
     . obtain⟨g2,r2,p2⟩:=c1 S' H' u' w' f' s r' fun a ha=>g a (List.mem_append_right _ ha)
       refine⟨f1++g2,bz.cons (h1.mono s fun a ha=>g a (List.mem_append_left _ ha)) r2,?_⟩
       refine(List.Perm.append_left f1 p2).trans ?_
       rw[<- List.append_assoc,<- List.append_assoc];exact List.Perm.append_right rest List.perm_append_comm
theorem BN{ts:List OV}(h:si ks ts f=some u):∃ k,ts[k]?=some u /\ ks[k]?=some f /\ (∀ u',Ah ks ts f u'=ts.set k u') /\ ∀{α:Type} (us:List (Str×α)),us.map (·.1)=ks->us.lookup f=(us.map (·.2))[k]?:=by
 induction ks generalizing ts with
 |nil=>simp[si]at h
 | cons g ks ih=>
   cases ts with
   |nil=>simp[si]at h
   | cons t ts=>
     unfold si at h;split at h
     . rename_i e;subst e;cases h
       refine⟨0,rfl,rfl,fun u'=>by simp[Ah],fun us eu=>?_⟩
       cases us with
       |nil=>cases eu
       | cons q us=>
         simp at eu;obtain⟨a,b⟩:=q;simp at eu;rw[<- eu.1];simp[List.lookup]
     . rename_i ne;obtain⟨k,e1,e2,e3,e4⟩:=ih h
       refine⟨k+1,by simpa using e1,by simpa using e2,fun u'=>by simp[Ah,ne,e3],fun us eu=>?_⟩
       cases us with
       |nil=>cases eu
       | cons q us=>
         obtain⟨a,b⟩:=q;simp at eu
         have:(f==a)=false:=by rw[eu.1];simpa using Ne.symm ne
         simp[List.lookup,this,e4 us eu.2]
noncomputable def sG(H:Hp):Stp->V->V->Prop
 |.ix k,v,w=>∃ p vs,v=.ref p /\ H p=some (.lst vs) /\ vs[k]?=some w
 |.fd f,v,w=>∃ p C dx us,v=.ref p /\ H p=some (.ins C dx us) /\ us.lookup f=some w
noncomputable def hJ(H:Hp):V->List Stp->V->Prop
 |v,[],w=>w=v
 |v,s ::π,w=>∃ u,sG H s v u /\ hJ H u π w
theorem sG.inj(h:sG H s v w)(k:sG H s v w'):w=w':=by
 cases s with
 | ix n=>
   obtain⟨p,vs,rfl,e1,e2⟩:=h;obtain⟨p',vs',e3,e4,e5⟩:=k;cases e3;rw[e1]at e4;cases e4;rw[e2]at e5;cases e5;rfl
 | fd f=>
   obtain⟨p,C,dx,us,rfl,e1,e2⟩:=h;obtain⟨p',C',dx',us',e3,e4,e5⟩:=k;cases e3;rw[e1]at e4;cases e4;rw[e2]at e5;cases e5;rfl
theorem hJ.inj:∀{v w w':V},hJ H v π w->hJ H v π w'->w=w':=by
 induction π with
 |nil=>intro v w w' h k;rw[h,k]
 | cons s π ih=>
   rintro v w w' ⟨u,h1,h2⟩ ⟨u',k1,k2⟩
   have:=h1.inj k1;subst this;exact ih h2 k2
theorem hJ.snoc:∀{v w u:V},hJ H v π w->sG H s w u->hJ H v (π++[s]) u:=by
 induction π with
 |nil=>intro v w u h k;rw[h]at k;exact⟨u,k,rfl⟩
 | cons t π ih=>
   rintro v w u ⟨x,h1,h2⟩ k
   exact⟨x,h1,ih h2 k⟩
theorem hJ.mono(g:aD H H'):∀{v w:V},hJ H v π w->hJ H' v π w:=by
 induction π with
 |nil=>intro v w h;exact h
 | cons t π ih=>
   rintro v w ⟨x,h1,h2⟩
   refine⟨x,?_,ih h2⟩
   cases t with
   |ix k=>obtain⟨p,vs,e,e1,e2⟩:=h1;exact⟨p,vs,e,g _ _ e1,e2⟩
   |fd f=>obtain⟨p,C,dx,us,e,e1,e2⟩:=h1;exact⟨p,C,dx,us,e,g _ _ e1,e2⟩
theorem bG.step{t u:OV}{fp:List Addr}(h:bG K cls S H t v fp)(e:t.at1 s=some u):
  ∃ w f1 rest,sG H s v w /\ bG K cls S H u w f1 /\ fp.Perm (f1++rest) /\
    ∀ S' H' u' f',aD S S'->bG K cls S' H' u' w f'->(∀ a∈rest,∀ o,H a=some o->H' a=some o)->∃ g,bG K cls S' H' (t.zy s u') v g /\ g.Perm (f'++rest):=by
 cases t with
 |sh x=>cases s<;>cases e
 |di x=>cases s<;>cases e
 |dt x=>cases s<;>cases e
 | ol ts=>
   cases s with
   |fd f=>cases e
   | ix k=>
     unfold bG at h;obtain⟨p,vs,f,rfl,hp,rfl,r⟩:=h;obtain⟨w,f1,rest,e1,r1,p1,c1⟩:=r.at e
     refine⟨w,f1,p ::rest,⟨p,vs,rfl,hp,e1⟩,r1,?_,fun S' H' u' f' s r' g=>?_⟩
     . exact(List.Perm.cons p p1).trans (List.perm_middle.symm)
     . obtain⟨g2,r2,p2⟩:=c1 S' H' u' w f' s r' fun a ha=>g a (by simp[ha])
       refine⟨p ::g2,?_,(List.Perm.cons p p2).trans List.perm_middle.symm⟩
       rw[kF e1]at r2;unfold OV.zy bG
       exact⟨p,vs,g2,rfl,g p (by simp) _ hp,rfl,r2⟩
 | ob c ks ts=>
   cases s with
   |ix k=>cases e
   | fd f=>
     unfold bG at h;obtain⟨p,C,dx,us,ff,rfl,hc,hp,hd,hk,rfl,r⟩:=h;obtain⟨k,e1,e2,e3,e4⟩:=BN e;obtain⟨w,f1,rest,q1,r1,p1,c1⟩:=r.at e1
     refine⟨w,f1,p ::dx ::rest,⟨p,C,dx,us,rfl,hp,by rw[e4 us hk];exact q1⟩,r1,?_,fun S' H' u' f' s r' g=>?_⟩
     . exact((List.Perm.cons p ((List.Perm.cons dx p1).trans List.perm_middle.symm))).trans List.perm_middle.symm
     . obtain⟨g2,r2,p2⟩:=c1 S' H' u' w f' s r' fun a ha=>g a (by simp[ha])
       refine⟨p ::dx ::g2,?_,(List.Perm.cons p ((List.Perm.cons dx p2).trans List.perm_middle.symm)).trans List.perm_middle.symm⟩
       rw[kF q1]at r2;unfold OV.zy bG
       exact⟨p,C,dx,us,g2,rfl,hc,g p (by simp) _ hp,g dx (by simp) _ hd,hk,rfl,by rw[e3];exact r2⟩
theorem bG.focus:∀{t u:OV} {v:V} {fp:List Addr},bG K cls S H t v fp->t.get π=some u ->
  ∃ w f1 rest,hJ H v π w /\ bG K cls S H u w f1 /\ fp.Perm (f1++rest) /\
    ∀ S' H' u' f',aD S S'->bG K cls S' H' u' w f'->(∀ a∈rest,∀ o,H a=some o->H' a=some o)->∃ g,bG K cls S' H' (t.put π u') v g /\ g.Perm (f'++rest):=by
 induction π with
 | nil=>
   intro t u v fp h e;cases e
   exact⟨v,fp,[],rfl,h,by simp,fun S' H' u' f' _ r' _=>⟨f',by unfold OV.put;exact r',by simp⟩⟩
 | cons s π ih=>
   intro t u v fp h e;unfold OV.get at e;obtain⟨t1,e1,e2⟩:=Option.bind_eq_some_iff.mp e;obtain⟨w1,f1,rest1,st,r1,p1,c1⟩:=h.step e1;obtain⟨w,f2,rest2,wk,r2,p2,c2⟩:=ih r1 e2
   refine⟨w,f2,rest2++rest1,⟨w1,st,wk⟩,r2,?_,fun S' H' u' f' s' r' g=>?_⟩
   . rw[<- List.append_assoc];exact p1.trans (List.Perm.append_right rest1 p2)
   . obtain⟨g1,q1,k1⟩:=c2 S' H' u' f' s' r' fun a ha=>g a (List.mem_append_left _ ha)
     obtain⟨g2,q2,k2⟩:=c1 S' H' _ g1 s' q1 fun a ha=>g a (List.mem_append_right _ ha)
     refine⟨g2,?_,?_⟩
     . unfold OV.put;rw[e1];exact q2
     . rw[<- List.append_assoc];exact k2.trans (List.Perm.append_right rest1 k1)
theorem SR.tree(I:SR K cls Av G S₀ ρ σ S H)(e:dP i ρ=some t):∃ v fp,σ[i]?=some (some v) /\ bG K cls S H t v fp:=by
 obtain⟨F,J⟩:=I;unfold dP at e
 cases q:ρ[i]? with
 |none=>rw[q]at e;cases e
 | some o=>
   cases o with
   |none=>rw[q]at e;cases e
   | some s=>
     rw[q]at e;obtain⟨v,e1,r⟩:=J.own i s q
     cases s with
     |tr io t'=>cases e;exact⟨v,_,e1,r.1⟩
     | bo t'=>
       cases e;obtain⟨_,f,r⟩:=r
       exact⟨v,f,e1,r.mono (aD.refl _) fun _ _ _ h=>J.gh _ _ h⟩
     |sh x=>cases e
     |ow xs=>cases e
     |ex c fs=>cases e
noncomputable def JP(K:PySem.W.Frag)(cls:String->Option Addr)(te:TE)(i:Nat)(mp:MP):Prop:=∀ Av G S₀ ρ σ S H Q v0 t π,SR K cls Av G S₀ ρ σ S H->dP i ρ=some t->σ[i]?=some (some v0)->mp ρ=some π->(t.get π).isSome=true ->
 (∀ w S' H',aZ S H S' H'->hJ H' v0 π w->Q w H')->te σ H Q
theorem eQ:JP K cls (vd i) i bL:=by
 intro Av G S₀ ρ σ S H Q v0 t π I e ev ep _ k;cases ep
 exact⟨v0,ev,k v0 S H (aZ.refl I.sh) rfl⟩
theorem Fp{mk:ah->OE}(hp:JP K cls te i mp)(hk:JE K cls W tk mk):JP K cls (tOp (BI K) te tk) i (pIx i mp mk):=by
 intro Av G S₀ ρ σ S H Q v0 t π I e ev ep hs k;unfold pIx at ep;rw[e]at ep
 dsimp only at ep
 split at ep
 . rename_i π0 e0;split at ep
   . rename_i ts e1;split at ep
     . rename_i r er;split at ep
       . rename_i n en;obtain⟨j,ej,e2⟩:=Option.map_eq_some_iff.mp ep;subst e2
         refine hp Av G S₀ ρ σ S H _ v0 t π0 I e ev e0 (by rw[e1];rfl) fun w S1 H1 w1 wk=>?_
         refine hk Av G S₀ ρ σ S1 H1 _ (I.grow w1) ?_;rw[er];intro u S2 H2 w2 ru;have I2:=(I.grow w1).grow w2
         have hu:u=.int n:=by have:=ru.rd I2.sh;rw[en]at this;exact de this
         subst hu;obtain⟨v,fp,ev',ro⟩:=I2.tree e;rw[ev]at ev';cases ev';obtain⟨w',f1,rest,wk',r',_,_⟩:=ro.focus e1;have:=(wk.mono w2.g).inj wk';subst this;unfold bG at r';obtain⟨p,vs,f,rfl,hl,rfl,rs⟩:=r'
         have hj:j<ts.length:=by
          have h1:L2.atI ts n=ts[j]?:=by unfold L2.atI;show(ixP ts.length n).bind _=_;rw[ej];rfl
          unfold ixP at ej;split at ej
          . split at ej
            . cases ej;omega
            . cases ej
          . split at ej
            . cases ej;omega
            . cases ej
         have hjv:j<vs.length:=by rw[rs.length];exact hj
         have hx:vs[j]?=some vs[j]:=by simp[hjv]
         refine⟨p,vs,n,vs[j],rfl,rfl,SqL.new hl,?_,k _ S2 H2 (w1.trans w2) (wk'.snoc ⟨p,vs,rfl,hl,hx⟩)⟩
         unfold L2.atI
         show(ixP vs.length n).bind _=_
         rw[rs.length,ej];exact hx
       . cases ep
     . cases ep
   . cases ep
 . cases ep
theorem JP.sub(hp:JP K cls te i mp)(I:SR K cls Av G S₀ ρ σ S H)(e:subAt i mp ρ=some u)
  (k:∀ w S' H' f,aZ S H S' H'->SR K cls Av G S₀ ρ σ S' H'->bG K cls S' H' u w f->Q w H'):te σ H Q:=by
 unfold subAt at e;split at e
 . rename_i t et;split at e
   . rename_i π eπ;obtain⟨v0,fp0,ev,_⟩:=I.tree et
     refine hp Av G S₀ ρ σ S H _ v0 t π I et ev eπ (by rw[e];rfl) fun w S1 H1 w1 wk=>?_
     obtain⟨v,fp,ev',ro⟩:=(I.grow w1).tree et;rw[ev]at ev';cases ev';obtain⟨w',f1,rest,wk',r',_,_⟩:=ro.focus e;have:=wk.inj wk';subst this;exact k w S1 H1 f1 w1 (I.grow w1) r'
   . cases e
 . cases e
theorem tE(hp:JP K cls te i mp):JE K cls W te (jH i mp):=by
 intro Av G S₀ ρ σ S H Q I p;unfold jH at p;split at p
 . rename_i x e
   refine hp.sub I e fun w S1 H1 f w1 _ r=>?_
   unfold bG at r;exact p w S1 H1 w1 r.2
 . rename_i ts e;split at p
   . rename_i xs ex
     refine hp.sub I e fun w S1 H1 f w1 _ r=>?_
     unfold bG at r;obtain⟨q,vs,ff,rfl,hq,_,rs⟩:=r;exact p _ S1 H1 w1 ⟨q,vs,rfl,SqL.new hq,(rs.flat ex).1⟩
   . exact p.elim
 . exact p.elim
theorem jN(hp:JP K cls te i mp):JT K cls W (fun σ H Q=>te σ H fun x H'=>∃ k,xy K x H' k /\ Q k H') (dW i mp):=by
 intro Av G S₀ ρ σ S H Q I p;unfold dW at p;split at p
 . rename_i ts e
   refine hp.sub I e fun w S1 H1 f w1 _ r=>?_
   unfold bG at r;obtain⟨q,vs,ff,rfl,hq,_,rs⟩:=r
   refine⟨_,.inl ⟨vs,SqL.new hq,rfl⟩,?_⟩
   have:vs.isEmpty=ts.isEmpty:=by
    have:=rs.length
    cases vs<;>cases ts<;>simp_all
   rw[this];exact p S1 H1 w1
 . exact p.elim
theorem A8(hp:JP K cls te i mp):JE K cls W (tCB (fun xs H Q=>∃ p ys,xs=[.ref p] /\ (SqL K H p ys \/ SqT K H p ys) /\ Q (.int ys.length) H) (fL te kb)) (pN i mp):=by
 intro Av G S₀ ρ σ S H Q I p;unfold pN at p;split at p
 . rename_i ts e
   refine hp.sub I e fun w S1 H1 f w1 _ r=>?_
   unfold bG at r;obtain⟨q,vs,ff,rfl,hq,_,rs⟩:=r
   exact⟨q,vs,rfl,.inl (SqL.new hq),p _ S1 H1 w1 (by show Rep K S1 _ _;unfold Rep;rw[rs.length])⟩
 . exact p.elim
end
section
variable{K:PySem.W.Frag}{cls:String->Option Addr}{W:XW}{Av G S₀ S S' H H' B B':Hp}{ρ:ah}{σ:St}{Q:VK}{F:Nat->List Addr}
theorem SRF.part{t u:OV}(J:SRF K cls Av G S₀ ρ σ S H F)(hi:ρ[i]?=some (some (.tr io t)))(hv:σ[i]?=some (some v0))(e:t.get π=some u):
  ∃ w f1 rest,hJ H v0 π w /\ bG K cls S H u w f1 /\ (F i).Perm (f1++rest) /\ (f1++rest).Nodup /\ (∀ a∈f1,G a=none /\ S a=none) /\
    ∀ S' H' u' f',aD S S'->aD S' H'->aD G H'->(∀ b,S' b≠none->S₀ b≠none \/ G b=none)->bG K cls S' H' u' w f'->f'.Nodup->(∀ a∈f',a∈f1 \/ H a=none)->(∀ a∈f',S' a=none) ->
      (∀ a o,a∉f1->H a=some o->H' a=some o)->(∀ a,S' a≠none->S a≠none \/ H a=none \/ a∈f1) ->
      ∃ g,SRF K cls Av G S₀ (ρ.set i (some (.tr io (t.put π u')))) σ S' H' (nj F i g) /\ g.Perm (f'++rest):=by
 obtain⟨v,ev,ro,nd,gs,hio⟩:=J.own i _ hi;rw[hv]at ev;cases ev;obtain⟨w,f1,rest,wk,r1,p1,c1⟩:=ro.focus e
 have nd1:(f1++rest).Nodup:=p1.nodup_iff.mp nd
 have in1:∀ a,a∈f1->a∈F i:=fun a ha=>p1.mem_iff.mpr (List.mem_append_left _ ha)
 have inr:∀ a,a∈rest->a∈F i:=fun a ha=>p1.mem_iff.mpr (List.mem_append_right _ ha)
 have off1:∀ a,a∈rest->a∉f1:=fun a ha hb=>(List.nodup_append.mp nd1).2.2 a hb a ha rfl
 refine⟨w,f1,rest,wk,r1,p1,nd1,fun a ha=>gs a (in1 a ha),fun S' H' u' f' s sh gh new r' nd' fr nS keep nw=>?_⟩
 obtain⟨g,rg,pg⟩:=c1 S' H' u' f' s r' fun a ha o h=>keep a o (off1 a ha) h
 have noS:∀ j a,a∈F j->a∉f1->S' a=none:=fun j a ha hb=>by
  cases q:S' a with
  |none=>rfl
  | some o=>
    obtain⟨⟨o',h1,_⟩,_,h3⟩:=J.live j a ha
    rcases nw a (by rw[q];simp)with z|z|z
    . exact absurd h3 z
    . rw[h1]at z;cases z
    . exact absurd z hb
 have J1:SRF K cls Av G S₀ (ρ.set i none) (σ.set i none) S H (nj F i []):=J.put (fun t e=>nomatch e) (fun a ha=>nomatch ha) fun j a _ ha=>nomatch ha
 have off:∀ j a,a∈nj F i [] j->a∉f1 /\ j≠i:=fun j a ha=>by
  by_cases ej:j=i
  . subst ej;rw[iD]at ha;cases ha
  . rw[fw ej]at ha
    exact⟨fun hb=>ej (J.apart j i a ha (in1 a hb)),ej⟩
 have J2:=J1.change (S':=S') (H':=H') gh s sh new (fun j a ha o h=>keep a o (off j a ha).1 h)
  (fun b o hx h=>keep b o (fun hb=>by
    obtain⟨⟨o',h1,h2⟩,_⟩:=J.live i b (in1 b hb)
    rw[h]at h1;cases h1;rw[hx]at h2;cases h2) h)
  fun j a ha=>by
   have hj:=off j a ha;rw[fw hj.2]at ha;exact noS j a ha hj.1
 have mem:∀ a,a∈g->a∈f' \/ a∈rest:=fun a ha=>List.mem_append.mp (pg.mem_iff.mp ha)
 have hlive:∀ a∈g,(∃ o,H' a=some o /\ isX o=false) /\ G a=none /\ S' a=none:=fun a ha=>by
  refine⟨rg.live a ha,?_,?_⟩
  . rcases mem a ha with z|z
    . rcases fr a z with y|y
      . exact(gs a (in1 a y)).1
      . exact J.gh.free y
    . exact(gs a (inr a z)).1
  . rcases mem a ha with z|z
    . exact nS a z
    . exact noS i a (inr a z) (off1 a z)
 have ndg:g.Nodup:=pg.nodup_iff.mpr (List.nodup_append.mpr ⟨nd',(List.nodup_append.mp nd1).2.1,fun a ha b hb z=>by
  subst z
  rcases fr a ha with y|y
  . exact off1 a hb y
  . obtain⟨⟨o',h1,_⟩,_⟩:=J.live i a (inr a hb)
    rw[y]at h1;cases h1⟩)
 have J3:=J2.put (i:=i) (s:=some (.tr io (t.put π u'))) (u:=some v0) (fp:=g) (fun t' e=>by
  cases e
  exact⟨v0,rfl,rg,ndg,fun a ha=>⟨(hlive a ha).2.1,(hlive a ha).2.2⟩,hio⟩) hlive fun j a hj ha hz=>by
   rw[fw hj]at hz
   rcases mem a ha with z|z
   . rcases fr a z with y|y
     . exact hj (J.apart j i a hz (in1 a y))
     . obtain⟨⟨o',h1,_⟩,_⟩:=J.live j a hz;rw[y]at h1;cases h1
   . exact hj (J.apart j i a hz (inr a z))
 rw[List.set_set,List.set_set,kF hv]at J3
 have eF:nj (nj F i []) i g=nj F i g:=by
  funext j
  by_cases ej:j=i
  . subst ej;rw[iD,iD]
  . rw[fw ej,fw ej,fw ej]
 rw[eF]at J3
 exact⟨g,J3,pg⟩
theorem SRF.more(I:SRF K cls Av G S₀ ρ σ S H F)(h:∀ t,s=some t->∃ v,u=some v /\ p7 K cls Av G S H ρ.length t v fp)
  (hl:∀ a∈fp,(∃ o,H a=some o /\ isX o=false) /\ G a=none /\ S a=none) (ap:∀ j a,j<ρ.length->a∈fp->a∉F j):∃ F',SRF K cls Av G S₀ (ρ++[s]) (σ++[u]) S H F':=by
 refine⟨fun j=>if j<ρ.length then F j else if j=ρ.length then fp else[],I.gh,I.s0,I.sh,I.new,fun j t e=>?_,fun j k a h1 h2=>?_,fun j a ha=>?_,by simp[I.len]⟩
 . by_cases hj:j<ρ.length
   . rw[List.getElem?_append_left hj]at e;rw[List.getElem?_append_left (by rw[<- I.len];exact hj)];simp only[hj,if_true];exact I.own j t e
   . rw[List.getElem?_append_right (Nat.le_of_not_lt hj)]at e
     have h0:j - ρ.length=0:=by
      by_cases h:j - ρ.length=0
      . exact h
      . rw[List.getElem?_eq_none (by simp;omega)]at e;cases e
     rw[h0]at e
     have ej:j=ρ.length:=by omega
     obtain⟨v,e2,r⟩:=h t (Option.some.inj e)
     refine⟨v,?_,?_⟩
     . rw[List.getElem?_append_right (by rw[<- I.len];omega),<- I.len,h0,e2];rfl
     . subst ej;simp only[Nat.lt_irrefl,if_false,if_true];exact r
 . by_cases hj:j<ρ.length
   . simp only[hj,if_true]at h1
     by_cases hk:k<ρ.length
     . simp only[hk,if_true]at h2;exact I.apart j k a h1 h2
     . simp only[hk,if_false]at h2;split at h2
       . exact absurd h1 (ap j a hj h2)
       . cases h2
   . simp only[hj,if_false]at h1;split at h1
     . rename_i ej
       by_cases hk:k<ρ.length
       . simp only[hk,if_true]at h2;exact absurd h2 (ap k a hk h1)
       . simp only[hk,if_false]at h2;split at h2
         . rename_i ek;rw[ej,ek]
         . cases h2
     . cases h1
 . by_cases hj:j<ρ.length
   . simp only[hj,if_true]at ha;exact I.live j a ha
   . simp only[hj,if_false]at ha;split at ha
     . exact hl a ha
     . cases ha
theorem SR.fold(I:SR K cls Av G S₀ (ρ++[some s]) (σ++[some v]) S H)(hs:nio s=true):SR K cls Av G S₀ (ρ.set i (some s)) (σ.set i (some v)) S H:=by
 obtain⟨F,J⟩:=I
 have hlen:ρ.length=σ.length:=by have:=J.len;simpa using this
 obtain⟨v',ev,r⟩:=J.own ρ.length s (by simp)
 have ev':v'=v:=by
  rw[List.getElem?_append_right (by rw[hlen];exact Nat.le_refl _),hlen,Nat.sub_self]at ev
  cases ev;rfl
 subst ev'
 have J1:SRF K cls Av G S₀ ρ σ S H (fun j=>if j<ρ.length then F j else[]):=by
  refine⟨J.gh,J.s0,J.sh,J.new,fun j t e=>?_,fun j k a h1 h2=>?_,fun j a ha=>?_,hlen⟩
  . have hj:j<ρ.length:=(List.getElem?_eq_some_iff.mp e).1
    obtain⟨v2,e2,r2⟩:=J.own j t (by rw[List.getElem?_append_left hj];exact e);rw[List.getElem?_append_left (by rw[<- hlen];exact hj)]at e2;simp only[hj,if_true]
    exact⟨v2,e2,r2⟩
  . split at h1
    . split at h2
      . exact J.apart j k a h1 h2
      . cases h2
    . cases h1
  . split at ha
    . exact J.live j a ha
    . cases ha
 refine⟨_,J1.put (i:=i) (s:=some s) (u:=some v') (fp:=F ρ.length) (fun t e=>?_) (fun a ha=>J.live _ a ha) fun j a hj ha hz=>?_⟩
 . cases e
   refine⟨v',rfl,?_⟩
   cases s with
   |sh x=>exact r
   |ow xs=>exact r
   |ex c fs=>exact r
   | tr io t=>
     cases io with
     |true=>cases hs
     |false=>exact⟨r.1,r.2.1,r.2.2.1,fun z=>nomatch z⟩
   |bo t=>cases hs
 . split at hz
   . rename_i hj';have:=J.apart j ρ.length a hz ha;omega
   . cases hz
theorem SR.Bq(I:SR K cls Av G S₀ (ρ++[s]) (σ++[u]) S H):SR K cls Av G S₀ ρ σ S H:=by
 obtain⟨F,J⟩:=I
 have hlen:ρ.length=σ.length:=by have:=J.len;simpa using this
 refine⟨F,J.gh,J.s0,J.sh,J.new,fun j t e=>?_,J.apart,J.live,hlen⟩
 have hj:j<ρ.length:=(List.getElem?_eq_some_iff.mp e).1
 obtain⟨v2,e2,r2⟩:=J.own j t (by rw[List.getElem?_append_left hj];exact e);rw[List.getElem?_append_left (by rw[<- hlen];exact hj)]at e2
 exact⟨v2,e2,r2⟩
noncomputable def wq(K:PySem.W.Frag)(cls:String->Option Addr)(B S H:Hp)(t:OV)(v:V):Prop:=∃ fp,bG K cls S H t v fp /\ fp.Nodup /\ ∀ a∈fp,B a=none /\ S a=none
noncomputable def EN(K:PySem.W.Frag)(cls:String->Option Addr)(B S H:Hp)(ts:List OV)(vs:List V):Prop:=∃ fp,bz K cls S H ts vs fp /\ fp.Nodup /\ ∀ a∈fp,B a=none /\ S a=none
noncomputable def pX(K:PySem.W.Frag)(cls:String->Option Addr)(W:XW)(σ:St)(S H:Hp)(Q:VK):OD->Prop
 |.ok t=>∀ v S' H',aZ S H S' H'->wq K cls H S' H' t v->Q v H'
 |.exc c fs=>∀ a C S' H',aZ S H S' H'->kC K cls S' H' c fs a C->W (.ref C) (some a) σ H'
 |.bad=>False
noncomputable def CU(K:PySem.W.Frag)(cls:String->Option Addr)(W:XW)(σ:St)(S H:Hp)(Q:List V->Hp->Prop):ODs->Prop
 |.ok ts=>∀ vs S' H',aZ S H S' H'->EN K cls H S' H' ts vs->Q vs H'
 |.exc c fs=>∀ a C S' H',aZ S H S' H'->kC K cls S' H' c fs a C->W (.ref C) (some a) σ H'
 |.bad=>False
noncomputable def JD(K:PySem.W.Frag)(cls:String->Option Addr)(W:XW)(te:TE)(m:ah->OD):Prop:=∀ Av G S₀ ρ σ S H Q,SR K cls Av G S₀ ρ σ S H->pX K cls W σ S H Q (m ρ)->te σ H Q
noncomputable def JDs(K:PySem.W.Frag)(cls:String->Option Addr)(W:XW)(te:TA)(m:ah->ODs):Prop:=∀ Av G S₀ ρ σ S H Q,SR K cls Av G S₀ ρ σ S H->CU K cls W σ S H Q (m ρ)->te σ H Q
theorem wq.grow(h:wq K cls B S H t v)(w:aZ S H S1 H1):wq K cls B S1 H1 t v:=by
 obtain⟨fp,r,nd,g⟩:=h
 refine⟨fp,r.mono w.s fun a _ o z=>w.g _ _ z,nd,fun a ha=>⟨(g a ha).1,?_⟩⟩
 obtain⟨o,h1,_⟩:=r.live a ha
 cases q:S1 a with
 |none=>rfl
 | some o'=>
   rcases w.new a (by rw[q];simp)with z|z
   . exact absurd (g a ha).2 z
   . rw[h1]at z;cases z
theorem yJ{me:ah->OE}(h:JE K cls W te me):JD K cls W te (mD me):=by
 intro Av G S₀ ρ σ S H Q I p;refine h Av G S₀ ρ σ S H Q I ?_;unfold mD at p
 cases e:me ρ with
 |exc c fs=>rw[e]at p;exact p
 |bad=>rw[e]at p;exact p
 | ok r=>
   rw[e]at p
   cases r with
   |sh x=>exact fun v S' H' w r=>p v S' H' w ⟨[],by unfold bG;exact⟨rfl,r⟩,List.nodup_nil,fun a ha=>nomatch ha⟩
   |al xs=>exact p.elim
   | fr xs=>
     intro v S' H' w r;obtain⟨q,vs,rfl,hB,hS,hH,hr⟩:=r;refine p _ S' H' w ⟨[q],by unfold bG;exact⟨q,vs,[],rfl,hH,rfl,.shs hr⟩,by simp,fun a ha=>?_⟩
     have z:a=q:=by simpa using ha
     subst z;exact⟨hB,hS⟩
theorem A0:JDs K cls W kb mDn:=fun Av G S₀ ρ σ S H Q I p=>p [] S H (aZ.refl I.sh) ⟨[],.nil,List.nodup_nil,fun a ha=>nomatch ha⟩
theorem uc{md:ah->OD}{mr:ah->ODs}(hd:JD K cls W te md)(ht:JDs K cls W t mr):JDs K cls W (fL te t) (mDc md mr):=by
 intro Av G S₀ ρ σ S H Q I p;refine hd Av G S₀ ρ σ S H _ I ?_;unfold mDc at p
 cases e:md ρ with
 |exc c fs=>rw[e]at p;exact p
 |bad=>rw[e]at p;exact p
 | ok x=>
   rw[e]at p;intro v S1 H1 w1 r1;refine ht Av G S₀ ρ σ S1 H1 _ (I.grow w1) ?_
   dsimp only at p
   cases e2:mr ρ with
   |exc c fs=>rw[e2]at p;exact fun a C S' H' w x=>p a C S' H' (w1.trans w) x
   |bad=>rw[e2]at p;exact p
   | ok ts=>
     rw[e2]at p;intro vs S2 H2 w2 r2;obtain⟨f2,q2,n2,g2⟩:=r2;have r3:=r1.grow w2;obtain⟨f0,q0,n0,g0⟩:=r1;refine p (v ::vs) S2 H2 (w1.trans w2) ⟨f0++f2,.cons (q0.mono w2.s fun a _ o z=>w2.g _ _ z) q2,List.nodup_append.mpr ⟨n0,n2,fun a ha b hb z=>?_⟩,fun a ha=>?_⟩
     . subst z;obtain⟨o,h1,_⟩:=q0.live a ha;rw[(g2 a hb).1]at h1;cases h1
     . rcases List.mem_append.mp ha with z|z
       . refine⟨(g0 a z).1,?_⟩
         obtain⟨o,h1,_⟩:=q0.live a z
         cases q:S2 a with
         |none=>rfl
         | some o'=>
           rcases w2.new a (by rw[q];simp)with y|y
           . exact absurd (g0 a z).2 y
           . rw[h1]at y;cases y
       . exact⟨w1.g.free (g2 a z).1,(g2 a z).2⟩
theorem C0{mr:ah->ODs}(h:JDs K cls W t mr):JD K cls W (Bv t) (mDl mr):=by
 intro Av G S₀ ρ σ S H Q I p;refine h Av G S₀ ρ σ S H _ I ?_;unfold mDl at p
 cases e:mr ρ with
 |exc c fs=>rw[e]at p;exact p
 |bad=>rw[e]at p;exact p
 | ok ts=>
   rw[e]at p
   dsimp only at p
   split at p
   . rename_i hl;intro vs S1 H1 w1 r1;obtain⟨fp,r,nd,g⟩:=r1
     refine⟨by rw[r.length];exact hl,fun q hq=>?_⟩
     have w2:aZ S1 H1 S1 (upd H1 q (.lst vs)):=aZ.heap w1.sh hq
     refine p (.ref q) S1 _ (w1.trans w2) ⟨q ::fp,by unfold bG;exact⟨q,vs,fp,rfl,bE,rfl,r.mono (aD.refl _) fun a _ o z=>w2.g _ _ z⟩,List.nodup_cons.mpr ⟨fun z=>?_,nd⟩,fun a ha=>?_⟩
     . obtain⟨o,h1,_⟩:=r.live q z;rw[hq]at h1;cases h1
     . rcases List.mem_cons.mp ha with z|z
       . subst z;exact⟨w1.g.free hq,w1.sh.free hq⟩
       . exact g a z
   . exact p.elim
theorem SR.Fs(I:SR K cls Av G S₀ ρ σ S H)(w:aZ S H S' H')(h:wq K cls H S' H' t v):SR K cls Av G S₀ (ρ.set i (some (.tr false t))) (σ.set i (some v)) S' H':=by
 obtain⟨F,J⟩:=I;obtain⟨fp,r,nd,g⟩:=h
 refine⟨_,(J.grow w).put (fp:=fp) (fun t' e=>by cases e;exact⟨v,rfl,r,nd,fun a ha=>⟨J.gh.free (g a ha).1,(g a ha).2⟩,fun z=>nomatch z⟩) (fun a ha=>⟨r.live a ha,J.gh.free (g a ha).1,(g a ha).2⟩) fun j a _ ha hz=>?_⟩
 obtain⟨⟨o,h1,_⟩,_⟩:=J.live j a hz;rw[(g a ha).1]at h1;cases h1
theorem wY{md:ah->OD}(h:JD K cls W te md):JS K cls W (tD te (iw i)) (pV i md):=by
 intro Av G S₀ ρ σ S H D I p;refine h Av G S₀ ρ σ S H _ I ?_;unfold pV at p
 cases e:md ρ with
 |exc c fs=>rw[e]at p;exact fun a C S' H' w x=>p a C σ S' H' (I.grow w) w.s x
 |bad=>rw[e]at p;exact p
 |ok t=>rw[e]at p;exact fun v S1 H1 w1 r1=>p _ S1 H1 (I.Fs w1 r1) w1.s
end
section
variable{K:PySem.W.Frag}{cls:String->Option Addr}{W:XW}{Av G S₀ S S' H H' B B':Hp}{ρ:ah}{σ:St}{Q:VK}{F:Nat->List Addr}
theorem bG.CK{ts:List OV}{v:V}{fp:List Addr}(h:bG K cls S H (.ol ts) v fp):∃ p vs f,v=.ref p /\ H p=some (.lst vs) /\ fp=p ::f /\ bz K cls S H ts vs f:=by unfold bG at h;exact h
theorem SRF.wI{i:Nat}{io:Bool}{t:OV}{ts:List OV}{v0:V}{π:List Stp}(J:SRF K cls Av G S₀ ρ σ S H F)(hi:ρ[i]?=some (some (.tr io t)))(hv:σ[i]?=some (some v0))(e:t.get π=some (.ol ts)):
  ∃ q vs ff rest,hJ H v0 π (.ref q) /\ H q=some (.lst vs) /\ vs.length=ts.length /\ bz K cls S H ts vs ff /\ (F i).Perm ((q ::ff)++rest) /\ ((q ::ff)++rest).Nodup /\
    ∀ S' H' ts' vs' f',aZ S H S' H'->bz K cls S' H' ts' vs' f'->f'.Nodup->(∀ a∈f',a∈ff \/ (H a=none /\ S' a=none)) ->
      ∃ g,SRF K cls Av G S₀ (ρ.set i (some (.tr io (t.put π (.ol ts'))))) σ S' (upd H' q (.lst vs')) (nj F i g) /\ g.Perm ((q ::f')++rest):=by
 obtain⟨w,f1,rest,wk,r1,p1,nd1,gs,c⟩:=J.part hi hv e;obtain⟨q,vs,ff,rfl,hq,rfl,rs⟩:=r1.CK
 refine⟨q,vs,ff,rest,wk,hq,rs.length,rs,p1,nd1,fun S' H' ts' vs' f' wg r' nd' fr=>?_⟩
 have hGq:=(gs q (by simp)).1;have hSq:=(gs q (by simp)).2
 have hS'q:S' q=none:=by
  cases z:S' q with
  |none=>rfl
  | some o=>
    rcases wg.new q (by rw[z];simp)with y|y
    . exact absurd hSq y
    . rw[hq]at y;cases y
 have nq:q∉f':=fun z=>by
  rcases fr q z with y|y
  . exact(List.nodup_cons.mp (List.nodup_append.mp nd1).1).1 y
  . rw[y.1]at hq;cases hq
 have nS:∀ a∈f',S' a=none:=fun a ha=>by
  rcases fr a ha with y|y
  . cases z:S' a with
    |none=>rfl
    | some o=>
      obtain⟨o',h1,_⟩:=rs.live a y
      rcases wg.new a (by rw[z];simp)with k|k
      . exact absurd (gs a (by simp[y])).2 k
      . rw[h1]at k;cases k
  . exact y.2
 refine c S' (upd H' q (.lst vs')) (.ol ts') (q ::f') wg.s (wg.sh.upd hS'q) ((J.gh.trans wg.g).upd hGq) (fun b h=>?_) ?_ (List.nodup_cons.mpr ⟨nq,nd'⟩) (fun a ha=>?_) (fun a ha=>?_) (fun a o hn h=>?_) fun a h=>?_
 . rcases wg.new b h with z|z
   . exact J.new b z
   . exact .inr (J.gh.free z)
 . unfold bG
   exact⟨q,vs',f',rfl,bE,rfl,r'.mono (aD.refl _) fun a ha o h=>by rw[bY (fun z=>nq (by rw[<- z];exact ha))];exact h⟩
 . rcases List.mem_cons.mp ha with z|z
   . subst z;exact .inl (by simp)
   . rcases fr a z with y|y
     . exact .inl (by simp[y])
     . exact .inr y.1
 . rcases List.mem_cons.mp ha with z|z
   . subst z;exact hS'q
   . exact nS a z
 . rw[bY (fun z=>hn (by rw[z];simp))];exact wg.g _ _ h
 . rcases wg.new a h with z|z
   . exact .inl z
   . exact .inr (.inl z)
theorem JP.at{i:Nat}{te:TE}{mp:MP}{io:Bool}{t u:OV}{v0:V}{π:List Stp}{Q:VK}(hp:JP K cls te i mp)(I:SR K cls Av G S₀ ρ σ S H)(hi:ρ[i]?=some (some (.tr io t)))(hv:σ[i]?=some (some v0))(e0:mp ρ=some π)(e1:t.get π=some u)
  (k:∀ w S' H',aZ S H S' H'->SR K cls Av G S₀ ρ σ S' H'->hJ H' v0 π w->Q w H'):te σ H Q:=
 hp Av G S₀ ρ σ S H Q v0 t π I (by unfold dP;rw[hi];rfl) hv e0 (by rw[e1];rfl) fun w S1 H1 w1 wk=>k w S1 H1 w1 (I.grow w1) wk
theorem qq{i:Nat}{mp:MP}{k:OV->(OV->ah)->OS}{D:Ends}(p:fW K cls W Av G S₀ S D (sP i mp ρ k)):∃ io t π u,ρ[i]?=some (some (.tr io t)) /\ mp ρ=some π /\ t.get π=some u /\ fW K cls W Av G S₀ S D (k u fun u'=>ρ.set i (some (.tr io (t.put π u')))):=by
 unfold sP at p;split at p
 . rename_i io t hi;split at p
   . rename_i π e0;split at p
     . rename_i u e1
       exact⟨io,t,π,u,hi,e0,e1,p⟩
     . exact p.elim
   . exact p.elim
 . exact p.elim
theorem SR.val{i:Nat}{s:Sl}(I:SR K cls Av G S₀ ρ σ S H)(e:ρ[i]?=some (some s)):∃ v,σ[i]?=some (some v):=let ⟨v,h,_⟩:=I.good i s e;⟨v,h⟩
theorem nk{i:Nat}{te tx:TE}{mp:MP}{md:ah->OD}(hp:JP K cls te i mp)(hx:JD K cls W tx md):JS K cls W (qU (tBM K "list" tL te (fL tx kb))) (fZ i mp md):=by
 intro Av G S₀ ρ σ S H D I p;obtain⟨io,t,π,u,hi,e0,e1,p⟩:=qq p;obtain⟨v0,hv⟩:=I.val hi
 cases u with
 |sh x=>exact p.elim
 |ob c ks us=>exact p.elim
 |di x=>exact p.elim
 |dt x=>exact p.elim
 | ol ts=>
   dsimp only at p
   refine hp.at I hi hv e0 e1 fun w S1 H1 w1 I1 wk=>?_
   obtain⟨F,J1⟩:=I1;obtain⟨q,vs,ff,rest,wk',hq,hl,rs,_,nd,c⟩:=J1.wI hi hv e1;have:=wk.inj wk';subst this
   refine⟨.inl ⟨rfl,_,SqL.new hq⟩,?_⟩
   refine hx Av G S₀ ρ σ S1 H1 _ ⟨F,J1⟩ ?_
   cases ed:md ρ with
   |exc c fs=>rw[ed]at p;exact fun a C S' H' w x=>p a C σ S' H' (SR.grow ⟨F,J1⟩ w) (w1.s.trans w.s) x
   |bad=>rw[ed]at p;exact p
   | ok x=>
     rw[ed]at p
     dsimp only at p
     split at p
     . rename_i hlt;intro v S2 H2 w2 r2;obtain⟨fx,rx,ndx,gx⟩:=r2
       refine⟨q,vs,v,rfl,rfl,w2.g _ _ hq,by rw[hl];exact hlt,?_⟩
       have ndf:ff.Nodup:=(List.nodup_cons.mp (List.nodup_append.mp nd).1).2
       have apx:∀ a∈ff,a∉fx:=fun a ha hb=>by
        obtain⟨o,h1,_⟩:=rs.live a ha;rw[(gx a hb).1]at h1;cases h1
       obtain⟨g,J3,_⟩:=c S2 H2 (ts++[x]) (vs++[v]) (ff++(fx++[])) w2 ((rs.mono w2.s fun a _ o h=>w2.g _ _ h).append (.cons rx .nil)) (by
         rw[List.append_nil]
         exact List.nodup_append.mpr ⟨ndf,ndx,fun a ha b hb z=>by subst z;exact apx a ha hb⟩) (fun a ha=>by
         rw[List.append_nil]at ha
         rcases List.mem_append.mp ha with z|z
         . exact .inl z
         . exact .inr (gx a z))
       exact p σ S2 _ ⟨_,J3⟩ (w1.s.trans w2.s)
     . exact p.elim
end
section
variable{K:PySem.W.Frag}{cls:String->Option Addr}{W:XW}{Av G S₀ S S' H H' B B':Hp}{ρ:ah}{σ:St}{Q:VK}{F:Nat->List Addr}
noncomputable def BV(K:PySem.W.Frag)(cls:String->Option Addr)(W:XW)(Av G S₀:Hp)(σ:St)(S:Hp)(Q:VK):OX->Prop
 |.ok ρ' s=>∀ v S' H',SR K cls Av G S₀ (ρ'++[some s]) (σ++[some v]) S' H'->aD S S'->Q v H'
 |.exc ρ' c fs=>∀ a C S' H',SR K cls Av G S₀ ρ' σ S' H'->aD S S'->kC K cls S' H' c fs a C->W (.ref C) (some a) σ H'
 |.bad=>False
noncomputable def JX(K:PySem.W.Frag)(cls:String->Option Addr)(W:XW)(te:TE)(m:ah->OX):Prop:=∀ Av G S₀ ρ σ S H Q,SR K cls Av G S₀ ρ σ S H->BV K cls W Av G S₀ σ S Q (m ρ)->te σ H Q
theorem tO{i:Nat}{te:TE}{m:ah->OX}(h:JX K cls W te m):JS K cls W (tD te (iw i)) (jF i m):=by
 intro Av G S₀ ρ σ S H D I p;refine h Av G S₀ ρ σ S H _ I ?_;unfold jF at p
 cases e:m ρ with
 |exc ρ' c fs=>rw[e]at p;exact fun a C S' H' I' s' x=>p a C σ S' H' I' s' x
 |bad=>rw[e]at p;exact p
 | ok ρ' s=>
   rw[e]at p
   dsimp only at p
   split at p
   . rename_i hs
     exact fun v S' H' I' s'=>p _ S' H' (I'.fold hs) s'
   . exact p.elim
theorem uV{te:TE}{m:ah->OX}(h:JX K cls W te m):JS K cls W (qU te) (gH m):=by
 intro Av G S₀ ρ σ S H D I p;refine h Av G S₀ ρ σ S H _ I ?_;unfold gH at p
 cases e:m ρ with
 |exc ρ' c fs=>rw[e]at p;exact fun a C S' H' I' s' x=>p a C σ S' H' I' s' x
 |bad=>rw[e]at p;exact p
 |ok ρ' s=>rw[e]at p;exact fun v S' H' I' s'=>p σ S' H' I'.Bq s'
theorem bz.last{ts:List OV}{vs:List V}{f:List Addr}{x:OV}(h:bz K cls S H ts vs f)(e:ts.getLast?=some x):∃ y f1 f2,vs[vs.length - 1]?=some y /\ bz K cls S H ts.dropLast vs.dropLast f1 /\ bG K cls S H x y f2 /\ f=f1++f2:=by
 induction ts generalizing vs f with
 |nil=>cases e
 | cons t ts ih=>
   obtain⟨v,r,f1,f2,rfl,rfl,h1,h2⟩:=h.cons_inv
   cases ts with
   | nil=>
     unfold bz at h2;obtain⟨rfl,rfl⟩:=h2;simp at e;subst e
     exact⟨v,[],f1,rfl,.nil,h1,by simp⟩
   | cons t2 ts2=>
     rw[List.getLast?_cons_cons]at e;obtain⟨y,g1,g2,e1,r1,r2,rfl⟩:=ih h2 e
     have hr:r≠[]:=by intro z;subst z;have:=h2.length;simp at this
     refine⟨y,f1++g1,g2,?_,?_,r2,by simp⟩
     . cases r with
       |nil=>exact absurd rfl hr
       |cons a r'=>simpa using e1
     . cases r with
       |nil=>exact absurd rfl hr
       |cons a r'=>exact bz.cons h1 r1
theorem A6{x:OV}{v:V}{fp:List Addr}{i:Nat}(h:bG K cls S H x v fp)(nd:fp.Nodup)(g:∀ a∈fp,G a=none /\ S a=none):p7 K cls Av G S H i (slO x) v fp:=by
 cases x with
 |sh y=>unfold bG at h;exact h
 |ol ts=>exact⟨h,nd,g,fun z=>nomatch z⟩
 |ob c ks ts=>exact⟨h,nd,g,fun z=>nomatch z⟩
 |di x=>exact⟨h,nd,g,fun z=>nomatch z⟩
 |dt x=>exact⟨h,nd,g,fun z=>nomatch z⟩
theorem BG{i:Nat}{te:TE}{mp:MP}(hp:JP K cls te i mp):JX K cls W (BF K "list" EH te) (qH i mp):=by
 intro Av G S₀ ρ σ S H Q I p;unfold qH at p;split at p
 . rename_i io t hi;split at p
   . rename_i π e0;split at p
     . rename_i ts e1;split at p
       . rename_i x ex;obtain⟨v0,hv⟩:=I.val hi
         refine hp.at I hi hv e0 e1 fun w S1 H1 w1 I1 wk=>?_
         obtain⟨F,J1⟩:=id I1;obtain⟨q,vs,ff,rest,wk',hq,hl,rs,pF,nd,c⟩:=J1.wI hi hv e1;have:=wk.inj wk';subst this;obtain⟨y,f1,f2,ey,ri,rx,rfl⟩:=rs.last ex
         have ndf:(f1++f2).Nodup:=(List.nodup_cons.mp (List.nodup_append.mp nd).1).2
         have nq:q∉f1++f2:=(List.nodup_cons.mp (List.nodup_append.mp nd).1).1
         refine⟨.inl ⟨rfl,_,SqL.new hq⟩,q,vs,y,rfl,rfl,hq,ey,?_⟩
         obtain⟨g,J3,pg⟩:=c S1 H1 ts.dropLast vs.dropLast f1 (aZ.refl J1.sh) ri (List.nodup_append.mp ndf).1 fun a ha=>.inl (List.mem_append_left _ ha)
         have in2:∀ a∈f2,a∈F i:=fun a ha=>pF.mem_iff.mpr (by simp[ha])
         have rx':bG K cls S1 (upd H1 q (.lst vs.dropLast)) x y f2:=rx.mono (aD.refl _) fun a ha o h=>by rw[bY (fun z=>nq (by rw[<- z];simp[ha]))];exact h
         have gs2:∀ a∈f2,G a=none /\ S1 a=none:=fun a ha=>(J1.live i a (in2 a ha)).2
         obtain⟨F',J4⟩:=J3.more (s:=some (slO x)) (u:=some y) (fp:=f2) (fun t' e=>by cases e;exact⟨y,rfl,A6 rx' (List.nodup_append.mp ndf).2.1 gs2⟩) (fun a ha=>⟨rx'.live a ha,gs2 a ha⟩) fun j a hj ha hz=>by
          by_cases ej:j=i
          . subst ej;rw[iD]at hz;have hm:=pg.mem_iff.mp hz;have hd:=List.nodup_append.mp nd
            rcases List.mem_append.mp hm with z|z
            . rcases List.mem_cons.mp z with z|z
              . subst z;exact nq (by simp[ha])
              . exact(List.nodup_append.mp ndf).2.2 a z a ha rfl
            . exact hd.2.2 a (by simp[ha]) a z rfl
          . rw[fw ej]at hz;exact ej (J1.apart j i a hz (in2 a ha))
         exact p y S1 _ ⟨F',J4⟩ w1.s
       . exact p.elim
     . exact p.elim
   . exact p.elim
 . exact p.elim
end
open Classical in
noncomputable def minus(H:Hp)(Fc:Nat->List Addr):Hp:=fun a=>if ∃ k,a∈Fc k then none else H a
section
variable{K:PySem.W.Frag}{cls:String->Option Addr}{W:XW}{Av G S₀ S S' H H' B B':Hp}{ρ:ah}{σ:St}{Q:VK}{F Fc Fc':Nat->List Addr}
theorem uU(h:a∈Fc k):minus H Fc a=none:=by unfold minus;rw[if_pos ⟨k,h⟩]
theorem jE(h:∀ k,a∉Fc k):minus H Fc a=H a:=by unfold minus;rw[if_neg (fun ⟨k,z⟩=>h k z)]
theorem qF:aD (minus H Fc) H:=fun b u h=>by
 unfold minus at h;split at h
 . cases h
 . exact h
theorem nL(h:minus H Fc a=none):H a=none \/ ∃ k,a∈Fc k:=by
 unfold minus at h;split at h
 . rename_i z;exact .inr z
 . exact .inl h
noncomputable def GU(K:PySem.W.Frag)(cls:String->Option Addr)(S H Hm:Hp):Sl->V->List Addr->Prop
 |.sh x,v,fp=>fp=[] /\ Rep K S x v
 |.tr true t,v,fp=>bG K cls S H t v fp /\ fp.Nodup
 |.bo t,v,fp=>fp=[] /\ ∃ f,bG K cls S Hm t v f
 |_,_,_=>False
structure BB(K:PySem.W.Frag)(cls:String->Option Addr)(vs:List V)(S H:Hp)(Fc:Nat->List Addr)(outs:List (Option OV))(S' H':Hp)(Fc':Nat->List Addr):Prop where
 s:aD S S'
 sh:aD S' H'
 keep:aD (minus H Fc) H'
 new:∀ b,S' b≠none->S b≠none \/ H b=none \/ ∃ k,b∈Fc k
 out:∀ k t',outs[k]?=some (some t')->∃ u,vs[k]?=some u /\ bG K cls S' H' t' u (Fc' k) /\ (Fc' k).Nodup
 apart:∀ j k a,a∈Fc' j->a∈Fc' k->j=k
 live:∀ k a,a∈Fc' k->minus H Fc a=none /\ S' a=none
noncomputable def E7(K:PySem.W.Frag)(cls:String->Option Addr)(vs:List V)(S H:Hp)(Fc:Nat->List Addr)(Q:VK)(E:XK):OI->Prop
 |.ok x outs=>∀ v S' H' Fc',BB K cls vs S H Fc outs S' H' Fc'->Rep K S' x v->Q v H'
 |.exc c fs outs=>∀ a C S' H' Fc',BB K cls vs S H Fc outs S' H' Fc'->kC K cls S' H' c fs a C->E (.ref C) (some a) H'
 |.bad=>False
structure Cm(K:PySem.W.Frag)(cls:String->Option Addr)(as:List Sl)(vs:List V)(S H:Hp)(Fc:Nat->List Addr):Prop where
 sh:aD S H
 len:as.length=vs.length
 rel:∀(k:Nat) (s:Sl),as[k]?=some s->∃ v,vs[k]?=some v /\ GU K cls S H (minus H Fc) s v (Fc k)
 apart:∀ j k a,a∈Fc j->a∈Fc k->j=k
 live:∀ k a,a∈Fc k->(∃ o,H a=some o /\ isX o=false) /\ S a=none
noncomputable def spI(K:PySem.W.Frag)(cls:String->Option Addr)(f:List Sl->OI):Sp:=fun vs H Q E=>∃ S as Fc,Cm K cls as vs S H Fc /\ E7 K cls vs S H Fc Q E (f as)
theorem Ax{as:List Sl}{vs:List V}{N:List Str}{i:Nat}{s:Sl}(hl:as.length=vs.length)(e:(kY N.length as)[i]?=some (some s)):as[i]?=some s /\ (L2.start N vs)[i]?=some ((vs[i]?)):=by
 unfold kY at e
 by_cases hi:i<as.length
 . rw[List.getElem?_append_left (by simpa using hi),List.getElem?_map]at e
   have hx:as[i]?=some as[i]:=by simp[hi]
   rw[hx]at e;cases e
   refine⟨hx,?_⟩
   unfold L2.start;rw[List.getElem?_append_left (by rw[List.length_map,<- hl];exact hi),List.getElem?_map]
   have hv:vs[i]?=some (vs[i]'(by rw[<- hl];exact hi)):=by simp[<- hl,hi]
   rw[hv];rfl
 . rw[List.getElem?_append_right (by simpa using hi)]at e;rw[List.getElem?_replicate]at e
   split at e<;>cases e
noncomputable def yR(vs:List V):Hp:=fun i=>(vs[i]?).map fun v=>.lst [v]
theorem SR.C7{ρ':ah}(A:aD S H)(I:SR K cls (yR vs) (minus H Fc) S ρ' σ' S' H'):∃ Fc',BB K cls vs S H Fc ((ρ'.take np).map nM) S' H' Fc':=by
 obtain⟨F,J⟩:=I
 refine⟨F,J.s0,J.sh,J.gh,fun b h=>?_,fun k t' e=>?_,J.apart,fun k a ha=>(J.live k a ha).2⟩
 . rcases J.new b h with z|z
   . exact .inl z
   . rcases nL z with y|y
     . exact .inr (.inl y)
     . exact .inr (.inr y)
 . rw[List.getElem?_map]at e;obtain⟨s,e1,e2⟩:=Option.map_eq_some_iff.mp e
   have e3:ρ'[k]?=some s:=by
    rw[List.getElem?_take]at e1;split at e1
    . exact e1
    . cases e1
   cases s with
   |none=>cases e2
   | some s=>
     cases s with
     | tr io t=>
       cases io with
       |false=>cases e2
       | true=>
         cases e2;obtain⟨v,ev,ro,nd,_,hio⟩:=J.own k _ e3;have:=hio rfl;unfold yR at this;obtain⟨u,eu,e4⟩:=Option.map_eq_some_iff.mp this;cases e4
         exact⟨v,eu,ro,nd⟩
     |sh x=>cases e2
     |ow x=>cases e2
     |ex c fs=>cases e2
     |bo t=>cases e2
theorem CH{P:Program}{w:World}{mg:Str->Option Value}{base:Heap}{x qual:Str}{st:Stmt}{f:Addr}{fd:FuncData}{N ps:List Str}{k:Nat}{m:ah->OS}(Fn:Fun K x qual st f fd)(Sc:bu N ps (aJ st))
  (hbody:∀(cdv:Value) (A:Around) (outer:List Env) (s:Shared) (H:Hp) (E:XK),ip k (A.deeper (envOfC qual (aJ st) s.heap.objs.size f cdv)) ->
    ∃ t,QSs (n8 (CXE P w) P w K mg base N qual (aJ st) f cdv A outer s H E) (eU st) t /\ JS K cls (fun C a _ H=>∀ H',aD H H'->E C a H') t m):cn P w K mg base (CXE P w) (k+1) f fd ps (spI K cls (fnI ps.length N.length m)):=by
 refine okX Fn Sc (fun vs H Q E h=>?_) fun cdv A outer s H vs Q E hr h=>?_
 . obtain⟨S,as,Fc,a,q⟩:=h;unfold fnI at q;split at q
   . rw[<- a.len];assumption
   . exact q.elim
 . obtain⟨S,as,Fc,a,q⟩:=h;unfold fnI at q;split at q
   . rename_i hl;obtain⟨t,ht,J⟩:=hbody cdv A outer s H E hr
     refine⟨t,ht.out,?_⟩
     have start:SR K cls (yR vs) (minus H Fc) S (kY N.length as) (L2.start N vs) S H:=by
      refine⟨Fc,qF,aD.refl _,a.sh,fun _ z=>.inl z,fun i s e=>?_,a.apart,fun i b hb=>⟨(a.live i b hb).1,uU hb,(a.live i b hb).2⟩,?_⟩
      . obtain⟨e1,e2⟩:=Ax a.len e;obtain⟨v,ev,r⟩:=a.rel i s e1;rw[ev]at e2
        refine⟨v,e2,?_⟩
        cases s with
        |sh x=>exact r
        |ow x=>exact r.elim
        |ex c fs=>exact r.elim
        | tr io t=>
          cases io with
          |false=>exact r.elim
          |true=>exact⟨r.1,r.2,fun b hb=>⟨uU hb,(a.live i b hb).2⟩,fun _=>by unfold yR;rw[ev];rfl⟩
        |bo t=>exact r
      . unfold kY L2.start;simp[a.len]
     refine J (yR vs) (minus H Fc) S (kY N.length as) (L2.start N vs) S H _ start ?_
     cases e:m (kY N.length as)with
     |nx ρ'=>rw[e]at q;exact fun σ' S' H' I' s'=>let ⟨Fc',E'⟩:=I'.C7 (np:=ps.length) a.sh;q .non S' H' Fc' E' (by unfold Rep;rfl)
     |bk ρ'=>rw[e]at q;exact q.elim
     |ct ρ'=>rw[e]at q;exact q.elim
     |bad=>rw[e]at q;exact q.elim
     | rt ρ' r=>
       rw[e]at q
       cases r with
       |al ys=>exact q.elim
       |fr ys=>exact q.elim
       |sh y=>exact fun v σ' S' H' I' s' rr=>let ⟨Fc',E'⟩:=I'.C7 (np:=ps.length) a.sh;q v S' H' Fc' E' rr
     | exc ρ' c fs=>
       rw[e]at q
       exact fun b C σ' S' H' I' s' x H2 g2=>let ⟨Fc',E'⟩:=(I'.same g2).C7 (np:=ps.length) a.sh;q b C S' H2 Fc' E' (x.mono (aD.refl _) g2)
   . exact q.elim
noncomputable def AR1(K:PySem.W.Frag)(S H:Hp)(ρ:ah)(σ:St):Arg->Sl->V->Prop
 |.e _,.sh x,v=>Rep K S x v
 |.t i mp,.tr true u,v=>∃ io t π v0,ρ[i]?=some (some (.tr io t)) /\ mp ρ=some π /\ t.get π=some u /\ σ[i]?=some (some v0) /\ hJ H v0 π v
 |.b i mp,.bo u,v=>∃ t π v0,dP i ρ=some t /\ mp ρ=some π /\ t.get π=some u /\ σ[i]?=some (some v0) /\ hJ H v0 π v
 |_,_,_=>False
noncomputable def ARs(K:PySem.W.Frag)(S H:Hp)(ρ:ah)(σ:St):List Arg->List Sl->List V->Prop
 |[],ss,vs=>ss=[] /\ vs=[]
 |a ::as,ss,vs=>∃ s sr v vr,ss=s ::sr /\ vs=v ::vr /\ AR1 K S H ρ σ a s v /\ ARs K S H ρ σ as sr vr
theorem AR1.mono(h:AR1 K S H ρ σ a s v)(s1:aD S S')(g:aD H H'):AR1 K S' H' ρ σ a s v:=by
 cases a with
 |e me=>cases s<;>first|exact h.elim|exact Rep.mono s1 h
 | t i mp=>
   cases s with
   | tr io u=>
     cases io with
     |false=>exact h.elim
     |true=>obtain⟨io,t,π,v0,h1,h2,h3,h4,h5⟩:=h;exact⟨io,t,π,v0,h1,h2,h3,h4,h5.mono g⟩
   |_=>exact h.elim
 | b i mp=>
   cases s with
   |bo u=>obtain⟨t,π,v0,h1,h2,h3,h4,h5⟩:=h;exact⟨t,π,v0,h1,h2,h3,h4,h5.mono g⟩
   |_=>exact h.elim
theorem ARs.at:∀{ss:List Sl} {vs:List V} {k:Nat} {a:Arg},ARs K S H ρ σ as ss vs->as[k]?=some a->∃ s v,ss[k]?=some s /\ vs[k]?=some v /\ AR1 K S H ρ σ a s v:=by
 induction as with
 |nil=>intro ss vs k a _ e;simp at e
 | cons b as ih=>
   rintro ss vs k a ⟨s,sr,v,vr,rfl,rfl,h1,h2⟩ e
   cases k with
   |zero=>simp at e;subst e;exact⟨s,v,rfl,rfl,h1⟩
   |succ k=>simp at e;obtain⟨s',v',e1,e2,r⟩:=ih h2 e;exact⟨s',v',by simpa using e1,by simpa using e2,r⟩
theorem ARs.len{as:List Arg}:∀{ss:List Sl} {vs:List V},ARs K S H ρ σ as ss vs->ss.length=as.length /\ vs.length=as.length:=by
 induction as with
 |nil=>intro ss vs h;rw[h.1,h.2];exact⟨rfl,rfl⟩
 | cons b as ih=>
   rintro ss vs ⟨s,sr,v,vr,rfl,rfl,h1,h2⟩
   have:=ih h2;simp[this]
noncomputable def JAI(K:PySem.W.Frag)(cls:String->Option Addr)(t:TA)(as:List Arg):Prop:=∀ Av G S₀ ρ σ S H Q ss,SR K cls Av G S₀ ρ σ S H->kJ as ρ=some ss->(∀ vs S' H',aZ S H S' H'->ARs K S' H' ρ σ as ss vs->Q vs H')->t σ H Q
noncomputable def JA1(K:PySem.W.Frag)(cls:String->Option Addr)(te:TE)(a:Arg):Prop:=∀ Av G S₀ ρ σ S H Q s,SR K cls Av G S₀ ρ σ S H->rG a ρ=some s->(∀ v S' H',aZ S H S' H'->AR1 K S' H' ρ σ a s v->Q v H')->te σ H Q
theorem Ci{me:ah->OE}(h:JE K cls W te me):JA1 K cls te (.e me):=by
 intro Av G S₀ ρ σ S H Q s I e k;unfold rG at e
 dsimp only at e
 refine h Av G S₀ ρ σ S H Q I ?_
 cases em:me ρ with
 |exc c fs=>rw[em]at e;cases e
 |bad=>rw[em]at e;cases e
 | ok r=>
   rw[em]at e;obtain⟨x,e1,rfl⟩:=Option.map_eq_some_iff.mp e;intro v S1 H1 w1 r1;obtain⟨S2,w2,s2,rx⟩:=r1.share w1 e1;exact k v S2 H1 w2 rx
theorem xl(h:JP K cls te i mp):JA1 K cls te (.t i mp):=by
 intro Av G S₀ ρ σ S H Q s I e k;unfold rG at e
 dsimp only at e
 split at e
 . rename_i io t hi;obtain⟨u,e1,rfl⟩:=Option.map_eq_some_iff.mp e;obtain⟨π,e2,e3⟩:=Option.bind_eq_some_iff.mp e1;obtain⟨v0,hv⟩:=I.val hi
   exact h.at I hi hv e2 e3 fun w S1 H1 w1 I1 wk=>k w S1 H1 w1 ⟨io,t,π,v0,hi,e2,e3,hv,wk⟩
 . cases e
theorem qk:JAI K cls kb []:=by
 intro Av G S₀ ρ σ S H Q ss I e k;cases e;exact k [] S H (aZ.refl I.sh) ⟨rfl,rfl⟩
theorem jO(h:JA1 K cls te a)(r:JAI K cls t as):JAI K cls (fL te t) (a ::as):=by
 intro Av G S₀ ρ σ S H Q ss I e k;unfold kJ at e;obtain⟨s,e1,e2⟩:=Option.bind_eq_some_iff.mp e;obtain⟨sr,e3,rfl⟩:=Option.map_eq_some_iff.mp e2
 refine h Av G S₀ ρ σ S H _ s I e1 fun v S1 H1 w1 h1=>?_
 refine r Av G S₀ ρ σ S1 H1 _ sr (I.grow w1) e3 fun vs S2 H2 w2 h2=>?_
 exact k (v ::vs) S2 H2 (w1.trans w2) ⟨s,sr,v,vs,rfl,rfl,h1.mono w2.s w2.g,h2⟩
end
section
variable{K:PySem.W.Frag}{cls:String->Option Addr}{W:XW}{Av G S₀ S S' H H' B B':Hp}{ρ:ah}{σ:St}{Q:VK}{F Fc Fc':Nat->List Addr}
noncomputable def cK:List Arg->List Nat
 |[]=>[]
 |.t i _ ::as=>i ::cK as
 |_ ::as=>cK as
noncomputable def pf:List Arg->List Nat
 |[]=>[]
 |.b i _ ::as=>i ::pf as
 |_ ::as=>pf as
noncomputable def argsOk(as:List Arg):Bool:=decide (cK as).Nodup&&(pf as).all fun i=>!(cK as).contains i
theorem gJ{as:List Arg}{k i:Nat}{mp:MP}(h:as[k]?=some (.t i mp)):i∈cK as:=by
 induction as generalizing k with
 |nil=>simp at h
 | cons a as ih=>
   cases k with
   |zero=>simp at h;subst h;simp[cK]
   | succ k=>
     simp at h;have:=ih h
     cases a<;>simp[cK,this]
theorem we{as:List Arg}{k i:Nat}{mp:MP}(h:as[k]?=some (.b i mp)):i∈pf as:=by
 induction as generalizing k with
 |nil=>simp at h
 | cons a as ih=>
   cases k with
   |zero=>simp at h;subst h;simp[pf]
   | succ k=>
     simp at h;have:=ih h
     cases a<;>simp[pf,this]
theorem j9{as:List Arg}(nd:(cK as).Nodup){j k i:Nat}{mp mp':MP}(h:as[j]?=some (.t i mp))(h':as[k]?=some (.t i mp')):j=k:=by
 induction as generalizing j k with
 |nil=>simp at h
 | cons a as ih=>
   cases j with
   | zero=>
     simp at h;subst h
     cases k with
     |zero=>rfl
     | succ k=>
       simp at h';have:=gJ h';simp[cK]at nd;exact absurd this nd.1
   | succ j=>
     cases k with
     | zero=>
       simp at h';subst h';simp at h;have:=gJ h;simp[cK]at nd;exact absurd this nd.1
     | succ k=>
       simp at h h'
       have nd':(cK as).Nodup:=by
        cases a with
        |t i' mp=>simp[cK]at nd;exact nd.2
        |e me=>exact nd
        |b i' mp=>exact nd
       rw[ih nd' h h']
theorem oZ{as:List Arg}{i:Nat}(h:i∈cK as):∃(k:Nat) (mp:MP),as[k]?=some (.t i mp):=by
 induction as with
 |nil=>simp[cK]at h
 | cons a as ih=>
   cases a with
   | t j mp=>
     simp[cK]at h
     rcases h with h|h
     . subst h;exact⟨0,mp,rfl⟩
     . obtain⟨k,mp',e⟩:=ih h;exact⟨k+1,mp',by simpa using e⟩
   |e me=>obtain⟨k,mp',e⟩:=ih h;exact⟨k+1,mp',by simpa using e⟩
   |b j mp=>obtain⟨k,mp',e⟩:=ih h;exact⟨k+1,mp',by simpa using e⟩
theorem pL{as:List Arg}{ρ₀:ah}:∀{us:List (Option OV)} {ρ:ah} {i:Nat},i∉cK as->(dX ρ₀ as us ρ)[i]?=ρ[i]?:=by
 induction as with
 |nil=>intro us ρ i _;rfl
 | cons a as ih=>
   intro us ρ i h;unfold dX
   cases a with
   |e me=>rw[ih h];rfl
   |b j mp=>rw[ih h];rfl
   | t j mp=>
     simp[cK]at h;rw[ih h.2]
     have:∀ x:Option Sl,(ρ.set j x)[i]?=ρ[i]?:=fun x=>List.getElem?_set_ne (Ne.symm h.1)
     cases us.head?.join with
     |none=>exact this _
     | some u=>
       unfold g4;dsimp only;split
       . split
         . exact this _
         . exact this _
       . exact this _
theorem wb{as:List Arg}{ρ₀:ah}:∀{us:List (Option OV)} {ρ:ah} {i k:Nat} {mp:MP} {s:Sl},(cK as).Nodup->as[k]?=some (.t i mp)->(dX ρ₀ as us ρ)[i]?=some (some s) ->
  ∃ io t π u,us[k]?=some (some u) /\ ρ[i]?=some (some (.tr io t)) /\ mp ρ₀=some π /\ s=.tr io (t.put π u):=by
 induction as with
 |nil=>intro us ρ i k mp s _ h;simp at h
 | cons a as ih=>
   intro us ρ i k mp s nd h e;unfold dX at e
   cases k with
   | zero=>
     simp at h;subst h;simp[cK]at nd;rw[pL nd.1]at e
     cases us with
     | nil=>
       unfold g4 at e;simp at e;rw[List.getElem?_set]at e;simp at e
     | cons u us=>
       cases u with
       | none=>
         unfold g4 at e;simp at e;rw[List.getElem?_set]at e;simp at e
       | some u=>
         unfold g4 at e;simp only[List.head?_cons,Option.join_some]at e;split at e
         . rename_i io t hi;split at e
           . rename_i π hπ;rw[List.getElem?_set]at e;simp at e
             exact⟨io,t,π,u,rfl,hi,hπ,e.2.symm⟩
           . rw[List.getElem?_set]at e;simp at e
         . rw[List.getElem?_set]at e;simp at e
   | succ k=>
     simp at h
     have nd':(cK as).Nodup:=by
      cases a with
      |t i' mp=>simp[cK]at nd;exact nd.2
      |e me=>exact nd
      |b i' mp=>exact nd
     obtain⟨io,t,π,u,e1,e2,e3,e4⟩:=ih nd' h e
     refine⟨io,t,π,u,?_,?_,e3,e4⟩
     . cases us with
       |nil=>simp at e1
       |cons _ us=>simpa using e1
     . cases a with
       |e me=>exact e2
       |b j mp=>exact e2
       | t j mp'=>
         have hij:i≠j:=by
          intro z;subst z;simp[cK]at nd;exact nd.1 (gJ h)
         have:∀ x:Option Sl,(ρ.set j x)[i]?=ρ[i]?:=fun x=>List.getElem?_set_ne (Ne.symm hij)
         cases q:us.head?.join with
         |none=>rw[q]at e2;unfold g4 at e2;simp only at e2;rw[this]at e2;exact e2
         | some u=>
           rw[q]at e2;unfold g4 at e2;simp only at e2;split at e2
           . split at e2
             . rw[this]at e2;exact e2
             . rw[this]at e2;exact e2
           . rw[this]at e2;exact e2
theorem ur{as:List Arg}{ρ₀:ah}:∀{us:List (Option OV)} {ρ:ah},(dX ρ₀ as us ρ).length=ρ.length:=by
 induction as with
 |nil=>intro us ρ;rfl
 | cons a as ih=>
   intro us ρ;unfold dX;rw[ih];unfold g4;split
   . split
     . split<;>simp
     . simp
   . simp
   . rfl
theorem SR.ER{as:List Arg}{ss:List Sl}{vs:List V}(I:SR K cls Av G S₀ ρ σ S H)(ok:argsOk as=true)(h:ARs K S H ρ σ as ss vs):
  ∃ Fc,Cm K cls ss vs S H Fc /\ ∀ outs S' H' Fc',BB K cls vs S H Fc outs S' H' Fc'->SR K cls Av G S₀ (dX ρ as outs ρ) σ S' H':=by
 obtain⟨F,J⟩:=I;unfold argsOk at ok;rw[Bool.and_eq_true,decide_eq_true_eq]at ok;obtain⟨nd,hb⟩:=ok
 have cell:∀ k:Nat,∃ d:List Addr×List Addr,(∀ i mp,as[k]?=some (.t i mp)->∃ io t π u v0 w,ss[k]?=some (.tr true u) /\ vs[k]?=some w /\ ρ[i]?=some (some (.tr io t)) /\ mp ρ=some π /\ t.get π=some u /\ σ[i]?=some (some v0) /\ bG K cls S H u w d.1 /\ (F i).Perm (d.1++d.2) /\ (d.1++d.2).Nodup /\ (io=true->Av i=some (.lst [v0])) /\
   ∀ S' H' u' f',aD S S'->bG K cls S' H' u' w f'->(∀ a∈d.2,∀ o,H a=some o->H' a=some o)->∃ g,bG K cls S' H' (t.put π u') v0 g /\ g.Perm (f'++d.2)) /\ ((∀ i mp,as[k]?≠some (.t i mp))->d=([],[])):=by
  intro k
  by_cases hk:∃ i mp,as[k]?=some (.t i mp)
  . obtain⟨i,mp,e⟩:=hk;obtain⟨s,w,es,ev,r⟩:=h.at e
    cases s with
    | tr io' u=>
      cases io' with
      |false=>exact r.elim
      | true=>
        obtain⟨io,t,π,v0,h1,h2,h3,h4,h5⟩:=r;obtain⟨v,ev',ro,ndf,gs,hio⟩:=J.own i _ h1;rw[h4]at ev';cases ev';obtain⟨w',f1,rest,wk,r1,p1,c1⟩:=ro.focus h3;have:=h5.inj wk;subst this
        refine⟨(f1,rest),fun i' mp' e'=>?_,fun z=>absurd e (z i mp)⟩
        rw[e]at e'
        cases e'
        exact⟨io,t,π,u,v0,w,es,ev,h1,h2,h3,h4,r1,p1,p1.nodup_iff.mp ndf,hio,c1⟩
    |sh x=>exact r.elim
    |ow x=>exact r.elim
    |ex c fs=>exact r.elim
    |bo x=>exact r.elim
  . exact⟨([],[]),fun i mp e=>absurd ⟨i,mp,e⟩ hk,fun _=>rfl⟩
 obtain⟨d,hd⟩:=Classical.axiomOfChoice cell
 have tOf:∀ k a,a∈(d k).1->∃ i mp,as[k]?=some (.t i mp) /\ a∈F i:=by
  intro k a ha
  by_cases hk:∃ i mp,as[k]?=some (.t i mp)
  . obtain⟨i,mp,e⟩:=hk;obtain⟨io,t,π,u,v0,w,_,_,_,_,_,_,_,p1,_⟩:=(hd k).1 i mp e
    exact⟨i,mp,e,p1.mem_iff.mpr (List.mem_append_left _ ha)⟩
  . rw[(hd k).2 fun i mp e=>hk ⟨i,mp,e⟩]at ha;cases ha
 have hlen:=h.len
 have m3:∀ i a,a∈F i->(∀ k mp,as[k]?=some (.t i mp)->a∉(d k).1)->∀ k,a∉(d k).1:=by
  intro i a ha hn k hk;obtain⟨i',mp,e,ha'⟩:=tOf k a hk;have:=J.apart i i' a ha ha';subst this;exact hn k mp e hk
 refine⟨fun k=>(d k).1,⟨J.sh,by rw[hlen.1,hlen.2],fun k s es=>?_,fun j k a h1 h2=>?_,fun k a ha=>?_⟩,fun outs S' H' Fc' E=>?_⟩
 . have hk:k<as.length:=by rw[<- hlen.1];exact(List.getElem?_eq_some_iff.mp es).1
   obtain⟨s',w,es',ev,r⟩:=h.at (k:=k) (a:=as[k]) (by simp[hk]);rw[es]at es';cases es'
   refine⟨w,ev,?_⟩
   cases q:as[k]with
   | e me=>
     rw[q]at r
     have hz:=(hd k).2 fun i mp e=>by rw[List.getElem?_eq_getElem hk,q]at e;cases e
     cases s<;>first|exact r.elim|exact⟨by rw[hz],r⟩
   | t i mp=>
     have eq:as[k]?=some (.t i mp):=by rw[List.getElem?_eq_getElem hk,q]
     obtain⟨io,t,π,u,v0,w',es',ev',_,_,_,_,r1,_,nd1,_⟩:=(hd k).1 i mp eq;rw[es]at es';cases es';rw[ev]at ev';cases ev'
     exact⟨r1,(List.nodup_append.mp nd1).1⟩
   | b i mp=>
     have eq:as[k]?=some (.b i mp):=by rw[List.getElem?_eq_getElem hk,q]
     rw[q]at r
     have hz:=(hd k).2 fun i mp e=>by rw[eq]at e;cases e
     cases s with
     | bo u=>
       obtain⟨t,π,v0,h1,h2,h3,h4,h5⟩:=r
       refine⟨by rw[hz],?_⟩
       have nt:i∉cK as:=by
        have:=List.all_eq_true.mp hb i (we eq)
        simpa using this
       have ro:∃ f,bG K cls S (minus H fun k=>(d k).1) t v0 f:=by
        unfold dP at h1
        cases q1:ρ[i]? with
        |none=>rw[q1]at h1;cases h1
        | some o=>
          cases o with
          |none=>rw[q1]at h1;cases h1
          | some s1=>
            rw[q1]at h1;obtain⟨v,ev',r⟩:=J.own i s1 q1;rw[h4]at ev';cases ev'
            cases s1 with
            | tr io t'=>
              cases h1
              exact⟨_,r.1.mono (aD.refl _) fun a ha o ho=>by
               rw[jE (m3 i a ha fun k' mp' e'=>absurd (gJ e') nt)];exact ho⟩
            | bo t'=>
              cases h1;obtain⟨_,f,r⟩:=r
              exact⟨f,r.mono (aD.refl _) fun a ha o ho=>by
               rw[jE fun k' hk'=>?_]
               . exact J.gh _ _ ho
               . obtain⟨i',mp',_,ha'⟩:=tOf k' a hk'
                 rw[(J.live i' a ha').2.1]at ho;cases ho⟩
            |sh x=>cases h1
            |ow x=>cases h1
            |ex c fs=>cases h1
       obtain⟨f,ro⟩:=ro;obtain⟨w',f1,rest,wk,r1,_,_⟩:=ro.focus h3;have:=h5.inj (wk.mono qF);subst this
       exact⟨f1,r1⟩
     |sh x=>exact r.elim
     |ow x=>exact r.elim
     |ex c fs=>exact r.elim
     |tr io x=>exact r.elim
 . obtain⟨i,mp,e1,m1⟩:=tOf j a h1;obtain⟨i',mp',e2,m2⟩:=tOf k a h2;have:=J.apart i i' a m1 m2;subst this;exact j9 nd e1 e2
 . obtain⟨i,mp,e1,m1⟩:=tOf k a ha
   exact⟨(J.live i a m1).1,(J.live i a m1).2.2⟩
 .
  have noS:∀ i a,a∈F i->(∀ k,a∉(d k).1)->S' a=none:=fun i a ha hn=>by
   cases z:S' a with
   |none=>rfl
   | some o=>
     obtain⟨⟨o',h1,_⟩,_,h3⟩:=J.live i a ha
     rcases E.new a (by rw[z];simp)with y|y|⟨k,y⟩
     . exact absurd h3 y
     . rw[h1]at y;cases y
     . exact absurd y (hn k)
  have keep:∀ a o,(∀ k,a∉(d k).1)->H a=some o->H' a=some o:=fun a o hn ho=>E.keep a o (by rw[jE hn];exact ho)
  have restOff:∀ k i mp,as[k]?=some (.t i mp)->∀ a∈(d k).2,a∈F i /\ ∀ k',a∉(d k').1:=fun k i mp e a ha=>by
   obtain⟨io,t,π,u,v0,w,_,_,_,_,_,_,_,p1,nd1,_⟩:=(hd k).1 i mp e
   have m:a∈F i:=p1.mem_iff.mpr (List.mem_append_right _ ha)
   refine⟨m,m3 i a m fun k' mp' e' hk'=>?_⟩
   have:=j9 nd e e';subst this
   exact(List.nodup_append.mp nd1).2.2 a hk' a ha rfl
  have gcell:∀ k:Nat,∃ g:List Addr,∀ i mp u',as[k]?=some (.t i mp)->outs[k]?=some (some u')->∀ io t π,ρ[i]?=some (some (.tr io t))->mp ρ=some π->∃ v0,σ[i]?=some (some v0) /\ (io=true->Av i=some (.lst [v0])) /\ bG K cls S' H' (t.put π u') v0 g /\ g.Perm (Fc' k++(d k).2):=by
   intro k
   by_cases hk:∃ i mp u',as[k]?=some (.t i mp) /\ outs[k]?=some (some u')
   . obtain⟨i,mp,u',e,eo⟩:=hk;obtain⟨io,t,π,u,v0,w,es,ev,h1,h2,h3,h4,r1,p1,nd1,hio,c1⟩:=(hd k).1 i mp e;obtain⟨w',ew,r',ndf'⟩:=E.out k u' eo;rw[ev]at ew;cases ew
     obtain⟨g,rg,pg⟩:=c1 S' H' u' (Fc' k) E.s r' fun a ha o ho=>keep a o (restOff k i mp e a ha).2 ho
     refine⟨g,fun i' mp' u'' e' eo' io' t' π' h1' h2'=>?_⟩
     rw[e]at e';cases e';rw[eo]at eo';cases eo';rw[h1]at h1';cases h1';rw[h2]at h2';cases h2'
     exact⟨v0,h4,hio,rg,pg⟩
   . exact⟨[],fun i mp u' e eo=>absurd ⟨i,mp,u',e,eo⟩ hk⟩
  obtain⟨g,hg⟩:=Classical.axiomOfChoice gcell
  have fcell:∀ i:Nat,∃ f:List Addr,(i∉cK as->f=F i) /\ ∀ k mp,as[k]?=some (.t i mp)->((∃ io t π u',ρ[i]?=some (some (.tr io t)) /\ mp ρ=some π /\ outs[k]?=some (some u'))->f=g k) /\ ((¬ ∃ io t π u',ρ[i]?=some (some (.tr io t)) /\ mp ρ=some π /\ outs[k]?=some (some u'))->f=[]):=by
   intro i
   by_cases hi:i∈cK as
   . obtain⟨k,mp,e⟩:=oZ hi
     by_cases hx:∃ io t π u',ρ[i]?=some (some (.tr io t)) /\ mp ρ=some π /\ outs[k]?=some (some u')
     . refine⟨g k,fun z=>absurd hi z,fun k' mp' e'=>?_⟩
       have:=j9 nd e e';subst this;rw[e]at e';cases e'
       exact⟨fun _=>rfl,fun z=>absurd hx z⟩
     . refine⟨[],fun z=>absurd hi z,fun k' mp' e'=>?_⟩
       have:=j9 nd e e';subst this;rw[e]at e';cases e'
       exact⟨fun z=>absurd z hx,fun _=>rfl⟩
   . exact⟨F i,fun _=>rfl,fun k mp e=>absurd (gJ e) hi⟩
  obtain⟨F',hF'⟩:=Classical.axiomOfChoice fcell
  have memF:∀ i a,a∈F' i->(i∉cK as /\ a∈F i /\ ∀ k,a∉(d k).1) \/ (∃ k mp,as[k]?=some (.t i mp) /\ F' i=g k /\ ((a∈Fc' k) \/ (a∈F i /\ ∀ k,a∉(d k).1)) /\ ∃ io t π u',ρ[i]?=some (some (.tr io t)) /\ mp ρ=some π /\ outs[k]?=some (some u')):=by
   intro i a ha
   by_cases hi:i∈cK as
   . obtain⟨k,mp,e⟩:=oZ hi
     by_cases hx:∃ io t π u',ρ[i]?=some (some (.tr io t)) /\ mp ρ=some π /\ outs[k]?=some (some u')
     . have e1:=((hF' i).2 k mp e).1 hx;refine .inr ⟨k,mp,e,e1,?_,hx⟩;obtain⟨io,t,π,u',h1,h2,h3⟩:=hx;obtain⟨v0,_,_,rg,pg⟩:=hg k i mp u' e h3 io t π h1 h2;rw[e1]at ha
       rcases List.mem_append.mp (pg.mem_iff.mp ha)with z|z
       . exact .inl z
       . exact .inr (restOff k i mp e a z)
     . rw[((hF' i).2 k mp e).2 hx]at ha;cases ha
   . have e1:=(hF' i).1 hi;rw[e1]at ha;exact .inl ⟨hi,ha,m3 i a ha fun k mp e=>absurd (gJ e) hi⟩
  refine⟨F',?_,J.s0.trans E.s,E.sh,fun b hbn=>?_,fun i s e=>?_,fun i j a h1 h2=>?_,fun i a ha=>?_,?_⟩
  . intro b u hu;refine keep b u (fun k hk=>?_) (J.gh b u hu);obtain⟨i,mp,_,m⟩:=tOf k b hk;rw[(J.live i b m).2.1]at hu;cases hu
  . rcases E.new b hbn with z|z|⟨k,z⟩
    . exact J.new b z
    . exact .inr (J.gh.free z)
    . obtain⟨i,mp,_,m⟩:=tOf k b z;exact .inr (J.live i b m).2.1
  . by_cases hi:i∈cK as
    . obtain⟨k,mp,ek⟩:=oZ hi;obtain⟨io,t,π,u,e1,e2,e3,rfl⟩:=wb nd ek e;obtain⟨v0,h1,hio,rg,pg⟩:=hg k i mp u ek e1 io t π e2 e3;have e4:=((hF' i).2 k mp ek).1 ⟨io,t,π,u,e2,e3,e1⟩;rw[e4];obtain⟨w',ew,r',ndf'⟩:=E.out k u e1
      refine⟨v0,h1,rg,pg.nodup_iff.mpr (List.nodup_append.mpr ⟨ndf',?_,fun a ha b hb' z=>?_⟩),fun a ha=>?_,hio⟩
      . obtain⟨_,_,_,_,_,_,_,_,_,_,_,_,_,_,nd1,_⟩:=(hd k).1 i mp ek
        exact(List.nodup_append.mp nd1).2.1
      . subst z;obtain⟨m,off⟩:=restOff k i mp ek a hb';have:=(E.live k a ha).1;rw[jE off]at this;obtain⟨⟨o,ho,_⟩,_⟩:=J.live i a m;rw[this]at ho;cases ho
      . rcases List.mem_append.mp (pg.mem_iff.mp ha)with z|z
        . refine⟨?_,(E.live k a z).2⟩
          rcases nL (E.live k a z).1 with y|⟨k',y⟩
          . exact J.gh.free y
          . obtain⟨i',mp',_,m⟩:=tOf k' a y
            exact(J.live i' a m).2.1
        . obtain⟨m,off⟩:=restOff k i mp ek a z
          exact⟨(J.live i a m).2.1,noS i a m off⟩
    . rw[pL hi]at e;obtain⟨v,ev,r⟩:=J.own i s e;rw[(hF' i).1 hi]
      have off:∀ a∈F i,∀ k,a∉(d k).1:=fun a ha=>m3 i a ha fun k mp e=>absurd (gJ e) hi
      exact⟨v,ev,r.mono E.s (fun a ha o ho=>keep a o (off a ha) ho) (fun b o hx ho=>keep b o (fun k hk=>by
       obtain⟨i',mp',_,m⟩:=tOf k b hk;obtain⟨⟨o',h1,h2⟩,_⟩:=J.live i' b m
       rw[ho]at h1;cases h1;rw[hx]at h2;cases h2) ho) fun a ha=>noS i a ha (off a ha)⟩
  .
   have key:∀ i j a,a∈F' i->a∈F' j->(∃ k,a∈Fc' k)->∃ k mp,as[k]?=some (.t i mp) /\ a∈Fc' k:=by
    intro i j a ha _ ⟨k0,hk0⟩
    have no:∀ i',a∈F i'->¬ ∀ k,a∉(d k).1:=fun i' m off=>by
     have:=(E.live k0 a hk0).1;rw[jE off]at this;obtain⟨⟨o,ho,_⟩,_⟩:=J.live i' a m;rw[this]at ho;cases ho
    rcases memF i a ha with⟨_,m,off⟩|⟨k,mp,e,_,z,_⟩
    . exact absurd off (no i m)
    . rcases z with z|⟨m,off⟩
      . exact⟨k,mp,e,z⟩
      . exact absurd off (no i m)
   by_cases hk:∃ k,a∈Fc' k
   . obtain⟨k1,mp1,e1,z1⟩:=key i j a h1 h2 hk;obtain⟨k2,mp2,e2,z2⟩:=key j i a h2 h1 hk;have:=E.apart k1 k2 a z1 z2;subst this;rw[e1]at e2;cases e2;rfl
   . have fromF:∀ i,a ∈ F' i -> a ∈ F i:=fun i ha=>by
      rcases memF i a ha with⟨_,m,_⟩|⟨k,mp,e,_,z,_⟩
      . exact m
      . rcases z with z|⟨m,_⟩
        . exact absurd ⟨k,z⟩ hk
        . exact m
     exact J.apart i j a (fromF i h1) (fromF j h2)
  . rcases memF i a ha with⟨_,m,off⟩|⟨k,mp,e,eg,z,io,t,π,u',x1,x2,x3⟩
    . obtain⟨⟨o,ho,hx⟩,hg',_⟩:=J.live i a m
      exact⟨⟨o,keep a o off ho,hx⟩,hg',noS i a m off⟩
    . obtain⟨v0,_,_,rg,pg⟩:=hg k i mp u' e x3 io t π x1 x2;rw[eg]at ha
      refine⟨rg.live a ha,?_⟩
      rcases z with z|⟨m,off⟩
      . refine⟨?_,(E.live k a z).2⟩
        rcases nL (E.live k a z).1 with y|⟨k',y⟩
        . exact J.gh.free y
        . obtain⟨i',mp',_,m⟩:=tOf k' a y
          exact(J.live i' a m).2.1
      . exact⟨(J.live i a m).2.1,noS i a m off⟩
  . rw[ur];exact J.len
end
end L2.P
namespace L2.E
open PySem PySem.Spec PyProof.Rows L2
end L2.E
namespace L2.P
open PySem PySem.Spec PyProof.Rows L2 L2.E
section
variable{K:PySem.W.Frag}{cls:String->Option Addr}{W:XW}{Av G S₀ S S' H H' B B':Hp}{ρ:ah}{σ:St}{Q:VK}{F Fc Fc':Nat->List Addr}
theorem SR.more(I:SR K cls Av G S₀ ρ σ S H)(h:Rep K S x v):SR K cls Av G S₀ (ρ++[some (.sh x)]) (σ++[some v]) S H:=by
 obtain⟨F,J⟩:=I
 exact J.more (fp:=[]) (fun t e=>by cases e;exact⟨v,rfl,rfl,h⟩) (fun a ha=>nomatch ha) fun j a _ ha=>nomatch ha
theorem vL{f:List Sl->OI}(ok:argsOk as=true)(I:SR K cls Av G S₀ ρ σ S1 H1)(s1:aD S S1)(ar:ARs K S1 H1 ρ σ as ss vs)
  (p:BV K cls W Av G S₀ σ S Q (match f ss with
    |.ok x outs=>.ok (dX ρ as outs ρ) (.sh x)
    |.exc c fs outs=>.exc (dX ρ as outs ρ) c fs
    |.bad=>.bad)):spI K cls f vs H1 Q fun C a H'=>W C a σ H':=by
 obtain⟨Fc,A,fin⟩:=I.ER ok ar
 refine⟨S1,ss,Fc,A,?_⟩
 cases e:f ss with
 |bad=>rw[e]at p;exact p
 |ok x outs=>rw[e]at p;exact fun v S' H' Fc' E r=>p v S' H' ((fin outs S' H' Fc' E).more r) (s1.trans E.s)
 |exc c fs outs=>rw[e]at p;exact fun a C S' H' Fc' E r=>p a C S' H' (fin outs S' H' Fc' E) (s1.trans E.s) r
theorem oy{f:List Sl->OI}(ok:argsOk as=true)(h:JAI K cls t as):JX K cls W (ph (spI K cls f) [] W t) (ef f as):=by
 intro Av G S₀ ρ σ S H Q I p;unfold ef at p
 cases e:kJ as ρ with
 |none=>rw[e]at p;exact p.elim
 | some ss=>
   rw[e]at p
   refine h Av G S₀ ρ σ S H _ ss I e fun vs S1 H1 w1 ar=>?_
   show spI K cls f (vs++[]) H1 Q _;rw[List.append_nil];exact vL ok (I.grow w1) w1.s ar p
end
end L2.P
namespace L2.E
open PySem PySem.Spec PyProof.Rows L2
noncomputable def tW(wi:TI)(ι:List Nat)(tc:TT)(te:TE):TE:=fun σ H Q=>wi σ H fun J H1=>∀ D,H1 D=none->∃ W:Nat->Nat->List V->Hp->Prop,(∃ m,W 0 m [] (upd H1 D (.lst []))) /\ ∀ i m ys H,W i m ys H ->
 H D=some (.lst ys) /\ ((J.stop i H /\ Q (.ref D) H) \/ (J.go i H /\ ∀ x H',J.yld i H x H'->tc (pick ι σ++[some x]) H' fun b H3=>H3 D=some (.lst ys) /\ if b=true then
   te (pick ι σ++[some x]) H3 fun y H2=>H2 D=some (.lst ys) /\ ys.length<sizeLine /\ ∃ m',m'<m /\ W (i+1) m' (ys++[y]) (upd H2 D (.lst (ys++[y])))else ∃ m',m'<m /\ W (i+1) m' ys H3))
section
variable{X:Cx}{scope:Scope}{cl:List (Str×Addr)}{M:List Str}{ι:List Nat}{x:Str}
theorem FI{i:Nat}{y:Str}{py spos:Pos}{elt iter:Expr}{px pos:Pos}{wi:TI}{te:TE}(S:lK X scope cl M ι x)(hc:X.calm=true)(hi:PI X (.Name x px) iter wi)(he:∀ C s₀ H₀ ex,PE (blk X scope cl (M++[x]) C s₀ H₀ ex) elt te)
  (hN:X.N.Nodup) (hiy:X.N[i]?=some y) (hy:Loc X.env.scope y) (hsw:swapsWith (.ListComp elt [⟨.Name x px,iter,[],0⟩] scope pos) (some (.Name y py)) spos.line X.env=pure true) (hf:X.fn y=true \/ X.env.scope.names.lookup y=some .local:=by first|exact .inl rfl|exact .inr rfl|assumption)
  (hs:∀ v,foldedSetIterable iter X.env v=pure v:=by intro _;rfl):PS X (.Assign [.Name y py] (.ListComp elt [⟨.Name x px,iter,[],0⟩] scope pos) spos) (tD (qG wi ι te) (iw i)):=by
 intro pins s σ H D0 I h;rw[exec_Assign_Name_used _ _ _ _ hsw];refine wpAny_bind (wpAny_standAt (wpAny_bind ?_));show wpAny _ _ (do let _ <- comprehension (.ListComp elt [⟨.Name x px,iter,[],0⟩] scope pos) scope X.env _ (newList []) false (eval iter X.env) (some (assign (.Name y py) X.env))) _ _ s;refine wpAny_bind (wpAny_mono (wpAny_comprehension_free (use:=some (assign (.Name y py) X.env)) (Q:=fun _ s'=>∃ σ' H',Inv X pins σ' H' s' /\ D0.nx σ' H') rfl hs S.clos S.kind (fun y hy hl=>?_) (wpAny_mono (hi pins s σ H _ I h) (fun v s1 h1=>wpAny_mono h1 (fun itv s2 h2=>?_) fun _ _ z=>z) fun _ _ z=>z)) (fun _ s' hq=>wpAny_pure (wpAny_pure hq)) fun _ _ e=>e)
 . have q:=List.all_eq_true.mp S.locs y hy;rw[hl]at q
   simpa using q
 obtain⟨it,fp,tn,J,H2,rfl,I2,T,st2,f2,hW⟩:=h2;have I3:=I2.Dk (ys:=[]) (its:=[]) (t':=s2.toks) .nil (Nat.zero_le _);obtain⟨W,⟨m0,w0⟩,turn⟩:=hW s2.heap.objs.size I2.fresh
 have fpo:∀ b∈fp,b<s2.heap.objs.size:=fun b hb=>let ⟨_,e,_⟩:=T.obj _ _ st2 b hb;Heap.lt_size e
 have f3:∀ b∈fp,kZ X pins (upd H2 s2.heap.objs.size (.lst [])) b:=fun b hb=>by
  obtain⟨q0,q⟩:=f2 b hb
  exact⟨by rw[bY (Nat.ne_of_lt (fpo b hb))];exact q0,q⟩
 show wpAny _ _ (newObj (.type "list") _ none) _ _ s2;refine wpAny_newObj_type (wpAny_newFunctionEnv (fun y hy=>?_) (by intro y hy;simp at hy) (fun h₁ hn₁ sb₁=>?_) S.kind)
 . have q:=List.all_eq_true.mp S.nocell y hy
   simpa using q
 have hsz:(s2.heap.push { cls:=.type "list",dict:=none,data:=.seq ([]:List Value).toArray }).objs.size=s2.heap.objs.size+1:=Heap.size_push ..
 have hk₁:∀ b o,(s2.heap.push { cls:=.type "list",dict:=none,data:=.seq ([]:List Value).toArray }).get? b=some o->h₁.get? b=some o:=fun b o e=>
  (sb₁.2 b (Nat.ne_of_lt (Heap.lt_size e))).trans (Heap.get?_push_of_some _ e)
 have J0:=vV (t':=s2.toks+([]:List (Str×Value)).length) S I3 (ex:=fp) (fun b hb=>⟨f3 b hb,Nat.lt_of_lt_of_le (fpo b hb) (by rw[hsz];exact Nat.le_succ _)⟩) hn₁ hk₁
 have old:∀ b∈fp,∀ o,s2.heap.get? b=some o->h₁.get? b=some o:=fun b _ o e=>hk₁ b o (Heap.get?_push_of_some _ e)
 have st₁:tn 0 h₁:=T.keep _ _ _ st2 old
 have loop:codeAny (model X.prog X.w) X.A (.compLoop (.ListComp elt [⟨.Name x px,iter,[],0⟩] scope pos) 0 (.ref it) (.ref s2.heap.objs.size) (compEnvC scope cl (s2.heap.objs.size+1) X.env))
   (compPost (model X.prog X.w) X.A X.xe (some (assign (.Name y py) X.env)) (fun _ s'=>∃ σ' H',Inv X pins σ' H' s' /\ D0.nx σ' H') (.ref s2.heap.objs.size) (s2.heap.objs.size+1)) { s2 with heap:=h₁,toks:=s2.toks+([]:List (Str×Value)).length }:=by
  rw[hsz]at J0
  refine codeAny_loop rfl (fun n s'=>∃ i H' ys v,Inv (blk X scope cl (M++[x]) (s2.heap.objs.size+1) { s2 with heap:=s2.heap.push { cls:=.type "list",data:=.seq ([]:List Value).toArray },toks:=s2.toks } (upd H2 s2.heap.objs.size (.lst [])) fp) [] (pick ι σ++[v]) H' s' /\ tn i s'.heap /\ (∀ b∈fp,H' b=none) /\ W i n ys H')
   (fun n s' hI=>?_) m0 ⟨0,_,[],none,J0,st₁,fun b hb=>(f3 b hb).1,w0⟩
  obtain⟨i,H',ys,v,J',st',fr',w'⟩:=hI;obtain⟨hD,alt⟩:=turn i n ys H' w'
  have fpY:∀{G:Hp},(∀ b∈fp,G b=none)->∀ b∈fp,kZ (blk X scope cl (M++[x]) (s2.heap.objs.size+1) { s2 with heap:=s2.heap.push { cls:=.type "list",data:=.seq ([]:List Value).toArray },toks:=s2.toks } (upd H2 s2.heap.objs.size (.lst [])) fp) [] G b:=fun hG b hb=>
   ⟨hG b hb,(J'.ok.exf b hb).1,J'.ok.exfs b hb,.inl hb,(J'.ok.exf b hb).2,fun p hp=>absurd (show p∈([]:List (Addr×Obj)) from hp) (by simp)⟩
  show wpAny _ _ ((compTurn _ 0 (.ref it) (.ref s2.heap.objs.size) (compEnvC scope cl (s2.heap.objs.size+1) X.env)).onRaise _) _ _ s';refine wpAny_noted (wpAny_noRaise ?_);rw[sJ];refine wpAny_bind (wpAny_standAt (wpAny_bind ?_))
  rcases alt with⟨stop,qn⟩|⟨go,step⟩
  . refine thn (T.done (blk X scope cl (M++[x]) (s2.heap.objs.size+1) _ _ fp) rfl rfl rfl hc i [] s' _ H' _ J' (fpY fr') st' stop) fun r s4 ⟨hr,J4⟩=>?_
    subst hr;refine wpAny_pure ?_;obtain⟨m,hm,_⟩:=id J4.loc
    have I4:Inv X pins σ H' s4:=sM (h':=s4.heap) I3 hsz.symm f3 J4 ⟨rfl,fun _ _=>rfl⟩
    obtain⟨oC,es,ep,hoC,rC⟩:=id hm
    have fC:kZ X pins H' (s2.heap.objs.size+1):=I3.wx (by rw[hsz];exact Nat.le_refl _) J4.free
    obtain⟨_,c1,c2,c3,c4,c5⟩:=id fC
    have I5:=I4.pinned (fp:=[s2.heap.objs.size+1]) (fun b hb=>by
     have z:b=s2.heap.objs.size+1:=by simpa using hb
     subst z;exact fC) fun b hb=>by
     have z:b=s2.heap.objs.size+1:=by simpa using hb
     subst z
     exact⟨oC,hoC,fun v z=>by rw[rC.1]at z;cases z⟩
    show wpAny _ _ (assign (.Name y py) X.env (.ref s2.heap.objs.size)) _ _ s4;refine wpAny_assign_Name (iO I5 hN hiy hy (v:=.ref s2.heap.objs.size) rfl (fun s5 I6=>?_) hf)
    have hC5:s5.heap.get? (s2.heap.objs.size+1)=some oC:=(I6.pin (_,oC) (List.mem_append_right _ (List.mem_append_right _ (dc (List.mem_singleton.mpr rfl) hoC)))).1
    refine⟨m,⟨oC,es,ep,hC5,rC⟩,fun h' sb=>⟨_,H',(I6.g5).turned (t':=s5.toks) (it:=s2.heap.objs.size+1) (fun b o hb e=>(sb.2 b hb).trans e) J4.free c1 c3 c4 c5,qn⟩⟩
  . refine thn (T.item (blk X scope cl (M++[x]) (s2.heap.objs.size+1) _ _ fp) rfl rfl rfl hc i [] s' _ H' _ J' (fpY fr') st' go) fun r s4 ⟨u,hr,h4⟩=>?_
    subst hr;refine wpAny_bind (thn h4 fun _ s5 ⟨z,H5,J5,r5,y5,st5,fr5⟩=>?_)
    have J5':=J5.pinned (fpY fr5) (T.obj _ _ st5)
    have hxN:(M++[x])[M.length]?=some x:=by simp
    refine wpAny_bind ?_;refine wpAny_assign_Name ?_;refine iO (X:=blk X scope cl (M++[x]) (s2.heap.objs.size+1) _ _ fp) (i:=M.length) (v:=z) J5' S.nd hxN (.inl (lookup_relabel_local S.var)) r5 (fun s6 J6=>?_) (.inr (lookup_relabel_local S.var))
    have hlp:(pick ι σ).length=M.length:=by
     have q:=congrArg List.length S.names;rw[List.length_map,List.length_map]at q;unfold pick;rw[List.length_map,q]
    have hset:(pick ι σ++[v]).set M.length (some z)=pick ι σ++[some z]:=by
     rw[<- hlp,List.set_append_right _ _ (Nat.le_refl _),Nat.sub_self];rfl
    rw[hset]at J6;refine wpAny_bind (wpAny_bind (thn (he _ _ _ _ _ s6 _ H5 _ J6 (step z H5 y5)) fun yv s7 ⟨y,H7,J7,r7,hD7,hz7,m',hm',w7⟩=>?_));refine wpAny_bind (thn (fS (X:=blk X scope cl (M++[x]) (s2.heap.objs.size+1) _ _ fp) _ s7 _ H7 (.ref s2.heap.objs.size) [y] (.ref s2.heap.objs.size) [yv] (fun _ G=>G=upd H7 s2.heap.objs.size (.lst (ys++[y]))) J7 rfl (.cons r7 .nil) ⟨_,_,y,rfl,rfl,hD7,hz7,rfl⟩) fun _ s8 ⟨_,H8,J8,_,e8⟩=>?_);subst e8;refine wpAny_pure (wpAny_pure ⟨rfl,m',hm',i+1,_,_,some z,J8.g5,?_,fun b hb=>?_,w7⟩)
    . exact T.keep _ _ _ st5 fun b hb o e=>(J8.pin (b,o) (List.mem_append_right _ (List.mem_append_right _ (dc hb e)))).1
    . obtain⟨o,e,d⟩:=T.obj _ _ st5 b hb
      exact(J8.pin (b,o) (List.mem_append_right _ (List.mem_append_right _ (dc hb e)))).2.1
 rw[hsz]at *;exact codeAny_compStart_list loop (T.self X.A 0 _ _ _ st₁ loop)
theorem xF{i:Nat}{y:Str}{py spos:Pos}{elt iter c:Expr}{px pos:Pos}{wi:TI}{tc:TT}{te:TE}(S:lK X scope cl M ι x)(hc:X.calm=true)(hi:PI X (.Name x px) iter wi)(hcd:∀ C s₀ H₀ ex,PT (blk X scope cl (M++[x]) C s₀ H₀ ex) c tc)(he:∀ C s₀ H₀ ex,PE (blk X scope cl (M++[x]) C s₀ H₀ ex) elt te)
  (hN:X.N.Nodup) (hiy:X.N[i]?=some y) (hy:Loc X.env.scope y) (hsw:swapsWith (.ListComp elt [⟨.Name x px,iter,[c],0⟩] scope pos) (some (.Name y py)) spos.line X.env=pure true) (hf:X.fn y=true \/ X.env.scope.names.lookup y=some .local:=by first|exact .inl rfl|exact .inr rfl|assumption)
  (hs:∀ v,foldedSetIterable iter X.env v=pure v:=by intro _;rfl):PS X (.Assign [.Name y py] (.ListComp elt [⟨.Name x px,iter,[c],0⟩] scope pos) spos) (tD (tW wi ι tc te) (iw i)):=by
 intro pins s σ H D0 I h;rw[exec_Assign_Name_used _ _ _ _ hsw];refine wpAny_bind (wpAny_standAt (wpAny_bind ?_));show wpAny _ _ (do let _ <- comprehension (.ListComp elt [⟨.Name x px,iter,[c],0⟩] scope pos) scope X.env _ (newList []) false (eval iter X.env) (some (assign (.Name y py) X.env))) _ _ s;refine wpAny_bind (wpAny_mono (wpAny_comprehension_free (use:=some (assign (.Name y py) X.env)) (Q:=fun _ s'=>∃ σ' H',Inv X pins σ' H' s' /\ D0.nx σ' H') rfl hs S.clos S.kind (fun y hy hl=>?_) (wpAny_mono (hi pins s σ H _ I h) (fun v s1 h1=>wpAny_mono h1 (fun itv s2 h2=>?_) fun _ _ z=>z) fun _ _ z=>z)) (fun _ s' hq=>wpAny_pure (wpAny_pure hq)) fun _ _ e=>e)
 . have q:=List.all_eq_true.mp S.locs y hy;rw[hl]at q
   simpa using q
 obtain⟨it,fp,tn,J,H2,rfl,I2,T,st2,f2,hW⟩:=h2;have I3:=I2.Dk (ys:=[]) (its:=[]) (t':=s2.toks) .nil (Nat.zero_le _);obtain⟨W,⟨m0,w0⟩,turn⟩:=hW s2.heap.objs.size I2.fresh
 have fpo:∀ b∈fp,b<s2.heap.objs.size:=fun b hb=>let ⟨_,e,_⟩:=T.obj _ _ st2 b hb;Heap.lt_size e
 have f3:∀ b∈fp,kZ X pins (upd H2 s2.heap.objs.size (.lst [])) b:=fun b hb=>by
  obtain⟨q0,q⟩:=f2 b hb
  exact⟨by rw[bY (Nat.ne_of_lt (fpo b hb))];exact q0,q⟩
 show wpAny _ _ (newObj (.type "list") _ none) _ _ s2;refine wpAny_newObj_type (wpAny_newFunctionEnv (fun y hy=>?_) (by intro y hy;simp at hy) (fun h₁ hn₁ sb₁=>?_) S.kind)
 . have q:=List.all_eq_true.mp S.nocell y hy
   simpa using q
 have hsz:(s2.heap.push { cls:=.type "list",dict:=none,data:=.seq ([]:List Value).toArray }).objs.size=s2.heap.objs.size+1:=Heap.size_push ..
 have hk₁:∀ b o,(s2.heap.push { cls:=.type "list",dict:=none,data:=.seq ([]:List Value).toArray }).get? b=some o->h₁.get? b=some o:=fun b o e=>
  (sb₁.2 b (Nat.ne_of_lt (Heap.lt_size e))).trans (Heap.get?_push_of_some _ e)
 have J0:=vV (t':=s2.toks+([]:List (Str×Value)).length) S I3 (ex:=fp) (fun b hb=>⟨f3 b hb,Nat.lt_of_lt_of_le (fpo b hb) (by rw[hsz];exact Nat.le_succ _)⟩) hn₁ hk₁
 have old:∀ b∈fp,∀ o,s2.heap.get? b=some o->h₁.get? b=some o:=fun b _ o e=>hk₁ b o (Heap.get?_push_of_some _ e)
 have st₁:tn 0 h₁:=T.keep _ _ _ st2 old
 have loop:codeAny (model X.prog X.w) X.A (.compLoop (.ListComp elt [⟨.Name x px,iter,[c],0⟩] scope pos) 0 (.ref it) (.ref s2.heap.objs.size) (compEnvC scope cl (s2.heap.objs.size+1) X.env))
   (compPost (model X.prog X.w) X.A X.xe (some (assign (.Name y py) X.env)) (fun _ s'=>∃ σ' H',Inv X pins σ' H' s' /\ D0.nx σ' H') (.ref s2.heap.objs.size) (s2.heap.objs.size+1)) { s2 with heap:=h₁,toks:=s2.toks+([]:List (Str×Value)).length }:=by
  rw[hsz]at J0
  refine codeAny_loop rfl (fun n s'=>∃ i H' ys v,Inv (blk X scope cl (M++[x]) (s2.heap.objs.size+1) { s2 with heap:=s2.heap.push { cls:=.type "list",data:=.seq ([]:List Value).toArray },toks:=s2.toks } (upd H2 s2.heap.objs.size (.lst [])) fp) [] (pick ι σ++[v]) H' s' /\ tn i s'.heap /\ (∀ b∈fp,H' b=none) /\ W i n ys H')
   (fun n s' hI=>?_) m0 ⟨0,_,[],none,J0,st₁,fun b hb=>(f3 b hb).1,w0⟩
  obtain⟨i,H',ys,v,J',st',fr',w'⟩:=hI;obtain⟨hD,alt⟩:=turn i n ys H' w'
  have fpY:∀{G:Hp},(∀ b∈fp,G b=none)->∀ b∈fp,kZ (blk X scope cl (M++[x]) (s2.heap.objs.size+1) { s2 with heap:=s2.heap.push { cls:=.type "list",data:=.seq ([]:List Value).toArray },toks:=s2.toks } (upd H2 s2.heap.objs.size (.lst [])) fp) [] G b:=fun hG b hb=>
   ⟨hG b hb,(J'.ok.exf b hb).1,J'.ok.exfs b hb,.inl hb,(J'.ok.exf b hb).2,fun p hp=>absurd (show p∈([]:List (Addr×Obj)) from hp) (by simp)⟩
  show wpAny _ _ ((compTurn _ 0 (.ref it) (.ref s2.heap.objs.size) (compEnvC scope cl (s2.heap.objs.size+1) X.env)).onRaise _) _ _ s';refine wpAny_noted (wpAny_noRaise ?_);rw[compTurn_list];refine wpAny_bind (wpAny_standAt (wpAny_bind ?_))
  rcases alt with⟨stop,qn⟩|⟨go,step⟩
  . refine thn (T.done (blk X scope cl (M++[x]) (s2.heap.objs.size+1) _ _ fp) rfl rfl rfl hc i [] s' _ H' _ J' (fpY fr') st' stop) fun r s4 ⟨hr,J4⟩=>?_
    subst hr;refine wpAny_pure ?_;obtain⟨m,hm,_⟩:=id J4.loc
    have I4:Inv X pins σ H' s4:=sM (h':=s4.heap) I3 hsz.symm f3 J4 ⟨rfl,fun _ _=>rfl⟩
    obtain⟨oC,es,ep,hoC,rC⟩:=id hm
    have fC:kZ X pins H' (s2.heap.objs.size+1):=I3.wx (by rw[hsz];exact Nat.le_refl _) J4.free
    obtain⟨_,c1,c2,c3,c4,c5⟩:=id fC
    have I5:=I4.pinned (fp:=[s2.heap.objs.size+1]) (fun b hb=>by
     have z:b=s2.heap.objs.size+1:=by simpa using hb
     subst z;exact fC) fun b hb=>by
     have z:b=s2.heap.objs.size+1:=by simpa using hb
     subst z
     exact⟨oC,hoC,fun v z=>by rw[rC.1]at z;cases z⟩
    show wpAny _ _ (assign (.Name y py) X.env (.ref s2.heap.objs.size)) _ _ s4;refine wpAny_assign_Name (iO I5 hN hiy hy (v:=.ref s2.heap.objs.size) rfl (fun s5 I6=>?_) hf)
    have hC5:s5.heap.get? (s2.heap.objs.size+1)=some oC:=(I6.pin (_,oC) (List.mem_append_right _ (List.mem_append_right _ (dc (List.mem_singleton.mpr rfl) hoC)))).1
    refine⟨m,⟨oC,es,ep,hC5,rC⟩,fun h' sb=>⟨_,H',(I6.g5).turned (t':=s5.toks) (it:=s2.heap.objs.size+1) (fun b o hb e=>(sb.2 b hb).trans e) J4.free c1 c3 c4 c5,qn⟩⟩
  . refine thn (T.item (blk X scope cl (M++[x]) (s2.heap.objs.size+1) _ _ fp) rfl rfl rfl hc i [] s' _ H' _ J' (fpY fr') st' go) fun r s4 ⟨u,hr,h4⟩=>?_
    subst hr;refine wpAny_bind (thn h4 fun _ s5 ⟨z,H5,J5,r5,y5,st5,fr5⟩=>?_)
    have J5':=J5.pinned (fpY fr5) (T.obj _ _ st5)
    have hxN:(M++[x])[M.length]?=some x:=by simp
    refine wpAny_bind ?_;refine wpAny_assign_Name ?_;refine iO (X:=blk X scope cl (M++[x]) (s2.heap.objs.size+1) _ _ fp) (i:=M.length) (v:=z) J5' S.nd hxN (.inl (lookup_relabel_local S.var)) r5 (fun s6 J6=>?_) (.inr (lookup_relabel_local S.var))
    have hlp:(pick ι σ).length=M.length:=by
     have q:=congrArg List.length S.names;rw[List.length_map,List.length_map]at q;unfold pick;rw[List.length_map,q]
    have hset:(pick ι σ++[v]).set M.length (some z)=pick ι σ++[some z]:=by
     rw[<- hlp,List.set_append_right _ _ (Nat.le_refl _),Nat.sub_self];rfl
    rw[hset]at J6;refine wpAny_bind (wpAny_tests_one (thn (hcd _ _ _ _ _ s6 _ H5 _ J6 (step z H5 y5)) fun b s7 ⟨H7,J7,hD7,q7⟩=>?_))
    cases b with
    | true=>
      rw[if_pos rfl]at q7;refine wpAny_bind (wpAny_bind (thn (he _ _ _ _ _ s7 _ H7 _ J7 q7) fun yv s8 ⟨y,H8,J8,r8,hD8,hz8,m',hm',w8⟩=>?_));refine wpAny_bind (thn (fS (X:=blk X scope cl (M++[x]) (s2.heap.objs.size+1) _ _ fp) _ s8 _ H8 (.ref s2.heap.objs.size) [y] (.ref s2.heap.objs.size) [yv] (fun _ G=>G=upd H8 s2.heap.objs.size (.lst (ys++[y]))) J8 rfl (.cons r8 .nil) ⟨_,_,y,rfl,rfl,hD8,hz8,rfl⟩) fun _ s9 ⟨_,H9,J9,_,e9⟩=>?_);subst e9;refine wpAny_pure (wpAny_pure ⟨rfl,m',hm',i+1,_,_,some z,J9.g5,?_,fun b hb=>?_,w8⟩)
      . exact T.keep _ _ _ st5 fun b hb o e=>(J9.pin (b,o) (List.mem_append_right _ (List.mem_append_right _ (dc hb e)))).1
      . obtain⟨o,e,d⟩:=T.obj _ _ st5 b hb
        exact(J9.pin (b,o) (List.mem_append_right _ (List.mem_append_right _ (dc hb e)))).2.1
    | false=>
      rw[if_neg (by decide)]at q7;obtain⟨m',hm',w8⟩:=q7;refine wpAny_pure ⟨rfl,m',hm',i+1,_,_,some z,J7.g5,?_,fun b hb=>?_,w8⟩
      . exact T.keep _ _ _ st5 fun b hb o e=>(J7.pin (b,o) (List.mem_append_right _ (List.mem_append_right _ (dc hb e)))).1
      . obtain⟨o,e,d⟩:=T.obj _ _ st5 b hb
        exact(J7.pin (b,o) (List.mem_append_right _ (List.mem_append_right _ (dc hb e)))).2.1
 rw[hsz]at *;exact codeAny_compStart_list loop (T.self X.A 0 _ _ _ st₁ loop)
end
end L2.E
namespace L2.P
open PySem PySem.Spec PyProof.Rows L2 L2.E
section
variable{K:PySem.W.Frag}{cls:String->Option Addr}{W:XW}{Av G S₀ S S' H H' B B':Hp}{ρ:ah}{σ:St}{Q:VK}
theorem uy{ml me:ah->OE}{ι:List Nat}(hι:ι.Nodup)(hl:JE K cls W tl ml)(he:JE K cls (fun _ _ _ _=>False) te me):JE K cls W (qG (Az K tl) ι te) (qC ml ι me):=by
 intro Av G S₀ ρ σ S H Q I p
 refine hl.go I p fun r v S1 H1 I1 w1 r1 p1=>?_
 have ra:=r1.rd I1.sh
 cases e:r.pv with
 | tup xs=>
   rw[e]at p1 ra;obtain⟨a,vs,rfl,hq,hr⟩:=fM ra
   refine⟨a,rfl,⟨vs,aD.tup I1.sh hq⟩,?_⟩
   dsimp only at p1
   cases em:cf me (dg ι ρ) xs with
   |exc c fs=>rw[em]at p1;exact p1.elim
   |bad=>rw[em]at p1;exact p1.elim
   | ok ys=>
     rw[em]at p1;simp only[noX]at p1;split at p1
     . rename_i hlen
       refine lX hι he I1 em hlen (fun k H' x g hx=>?_) (fun H' g=>⟨vs,aD.tup (I1.sh.trans g) hq,by rw[hr.length];exact Nat.le_refl _⟩) fun D S' H' w nD sD ⟨us,hD,rr⟩=>p1 (.ref D) S' H' w ⟨D,us,rfl,nD,sD,hD,rr⟩
       obtain⟨u,hu,ru⟩:=hr.get hx
       refine⟨⟨vs,u,aD.tup (I1.sh.trans g) hq,hu⟩,?_⟩
       rintro v' H2 ⟨rfl,hv⟩
       have:=hv vs (aD.tup (I1.sh.trans g) hq);rw[hu]at this;cases this
       exact⟨rfl,ru⟩
     . exact p1.elim
 |_=>rw[e]at p1;exact p1.elim
theorem uu{J:It}{ι:List Nat}{mc:ah->OT}{me:ah->OE}{xs ys:List PV}(hι:ι.Nodup)(hc:JT K cls (fun _ _ _ _=>False) tc mc)(he:JE K cls (fun _ _ _ _=>False) te me)(I:SR K cls Av G S₀ ρ σ S H)(hy:fo mc me (dg ι ρ) xs=.ok ys)(hl:ys.length<=lim)
  (go:∀ k H' x,aD H H'->xs[k]?=some x->J.go k H' /\ ∀ v H2,J.yld k H' v H2->H2=H' /\ Rep K S x v) (stop:∀ H',aD H H'->J.stop xs.length H')
  (hQ:∀ D S' H',aZ S H S' H'->H D=none->S' D=none->(∃ us,H' D=some (.lst us) /\ bA K S' ys us)->Q (.ref D) H'):
  ∀ D,H D=none->∃ W:Nat->Nat->List V->Hp->Prop,(∃ m,W 0 m [] (upd H D (.lst []))) /\ ∀ i m us H',W i m us H' ->
    H' D=some (.lst us) /\ ((J.stop i H' /\ Q (.ref D) H') \/ (J.go i H' /\ ∀ x H2,J.yld i H' x H2->tc (L2.E.pick ι σ++[some x]) H2 fun b H4=>H4 D=some (.lst us) /\ if b=true then te (L2.E.pick ι σ++[some x]) H4 fun y H3=>H3 D=some (.lst us) /\ us.length<sizeLine /\ ∃ m',m'<m /\ W (i+1) m' (us++[y]) (upd H3 D (.lst (us++[y])))else ∃ m',m'<m /\ W (i+1) m' us H4)):=by
 intro D nD
 refine⟨fun k m us H'=>m+k=xs.length /\ H' D=some (.lst us) /\ ∃ S' zs ws,aD S S' /\ aD H H' /\ aD S' H' /\ (∀ b,S' b≠none->S b≠none \/ (H b=none /\ b≠D)) /\ bA K S' zs us /\ fo mc me (dg ι ρ) (xs.drop k)=.ok ws /\ ys=zs++ws,
  ⟨xs.length,rfl,bE,S,[],ys,aD.refl _,aD.new nD,I.sh.trans (aD.new nD),fun b z=>.inl z,.nil,hy,rfl⟩,?_⟩
 rintro k m us H' ⟨hm,hD,S',zs,ws,s1,g1,sh1,n1,r1,e1,rfl⟩
 refine⟨hD,?_⟩
 have hSD:S' D=none:=by
  cases q:S' D with
  |none=>rfl
  | some o=>
    rcases n1 D (by rw[q];simp)with z|⟨_,z⟩
    . exact absurd (I.sh.free nD) z
    . exact absurd rfl z
 by_cases hk:k<xs.length
 . refine .inr ?_
   have hx:xs[k]?=some xs[k]:=by simp[hk]
   obtain⟨hgo,hyld⟩:=go k H' xs[k] g1 hx
   refine⟨hgo,fun v H2 hv=>?_⟩
   obtain⟨rfl,rv⟩:=hyld v H2 hv;rw[List.drop_eq_getElem_cons hk]at e1
   have I1:SR K cls Av G S₀ ρ σ S' H2:=I.grow ⟨s1,g1,sh1,fun b z=>by
    rcases n1 b z with z|⟨z,_⟩
    . exact .inl z
    . exact .inr z⟩
   have Ip:=I1.pick hι (Rep.mono s1 rv);refine hc _ G S₀ _ _ S' H2 _ Ip ?_;unfold fo at e1;split at e1
   . rename_i ec;rw[ec];intro S2 H3 w2
     have hSD2:S2 D=none:=by
      cases q:S2 D with
      |none=>rfl
      | some o=>
        rcases w2.new D (by rw[q];simp)with z|z
        . exact absurd hSD z
        . rw[hD]at z;cases z
     refine⟨w2.g _ _ hD,?_⟩
     rw[if_pos rfl];refine he _ G S₀ _ _ S2 H3 _ (Ip.grow w2) ?_
     cases em:me (dg ι ρ++[some (.sh xs[k])])with
     |exc c fs=>rw[em]at e1;cases e1
     |bad=>rw[em]at e1;cases e1
     | ok r=>
       rw[em]at e1;simp only[OE.ee]at e1
       cases es:jD r with
       |none=>rw[es]at e1;cases e1
       | some y=>
         rw[es]at e1
         dsimp only at e1
         cases e2:fo mc me (dg ι ρ) (xs.drop (k+1))with
         |exc c fs=>rw[e2]at e1;cases e1
         |bad=>rw[e2]at e1;cases e1
         | ok zs'=>
           rw[e2]at e1;simp only[OA.ee]at e1;cases e1;intro u S4 H4 w4 r4;obtain⟨S3,w3,s3,ru⟩:=r4.share w4 es
           have hl2:(zs++y ::zs').length<=lim:=hl
           have w5:=w2.trans w3
           have hSD3:S3 D=none:=by
            cases q:S3 D with
            |none=>rfl
            | some o=>
              rcases w3.new D (by rw[q];simp)with z|z
              . exact absurd hSD2 z
              . rw[w2.g _ _ hD]at z;cases z
           refine⟨w5.g _ _ hD,?_,m - 1,by omega,by omega,bE,S3,zs++[y],zs',s1.trans w5.s,(g1.trans w5.g).upd nD,w3.sh.upd hSD3,fun b z=>?_,(r1.mono w5.s).append (.cons ru .nil),e2,by simp⟩
           . rw[r1.length,<- vE];rw[List.length_append,List.length_cons]at hl2;omega
           . rcases w5.new b z with z|z
             . exact n1 b z
             . refine .inr ⟨g1.free z,fun e=>?_⟩;rw[e,hD]at z;cases z
   . rename_i ec;rw[ec];intro S2 H3 w2
     refine⟨w2.g _ _ hD,?_⟩
     rw[if_neg (by decide)]
     refine⟨m - 1,by omega,by omega,w2.g _ _ hD,S2,zs,ws,s1.trans w2.s,g1.trans w2.g,w2.sh,fun b z=>?_,r1.mono w2.s,e1,rfl⟩
     rcases w2.new b z with z|z
     . exact n1 b z
     . refine .inr ⟨g1.free z,fun e=>?_⟩;rw[e,hD]at z;cases z
   . cases e1
 . have hk':k=xs.length:=by omega
   subst hk';refine .inl ⟨stop H' g1,?_⟩;rw[List.drop_length]at e1;cases e1
   exact hQ D S' H' ⟨s1,g1,sh1,fun b z=>by
    rcases n1 b z with z|⟨z,_⟩
    . exact .inl z
    . exact .inr z⟩ nD hSD ⟨us,hD,by rw[List.append_nil];exact r1⟩
theorem vf{ml me:ah->OE}{mc:ah->OT}{ι:List Nat}(hι:ι.Nodup)(hl:JE K cls W tl ml)(hc:JT K cls (fun _ _ _ _=>False) tc mc)(he:JE K cls (fun _ _ _ _=>False) te me):JE K cls W (tW (Az K tl) ι tc te) (ly ml ι mc me):=by
 intro Av G S₀ ρ σ S H Q I p
 refine hl.go I p fun r v S1 H1 I1 w1 r1 p1=>?_
 have ra:=r1.rd I1.sh
 cases e:r.pv with
 | tup xs=>
   rw[e]at p1 ra;obtain⟨a,vs,rfl,hq,hr⟩:=fM ra
   refine⟨a,rfl,⟨vs,aD.tup I1.sh hq⟩,?_⟩
   dsimp only at p1
   cases em:fo mc me (dg ι ρ) xs with
   |exc c fs=>rw[em]at p1;exact p1.elim
   |bad=>rw[em]at p1;exact p1.elim
   | ok ys=>
     rw[em]at p1;simp only[noX]at p1;split at p1
     . rename_i hlen
       refine uu hι hc he I1 em hlen (fun k H' x g hx=>?_) (fun H' g=>⟨vs,aD.tup (I1.sh.trans g) hq,by rw[hr.length];exact Nat.le_refl _⟩) fun D S' H' w nD sD ⟨us,hD,rr⟩=>p1 (.ref D) S' H' w ⟨D,us,rfl,nD,sD,hD,rr⟩
       obtain⟨u,hu,ru⟩:=hr.get hx
       refine⟨⟨vs,u,aD.tup (I1.sh.trans g) hq,hu⟩,?_⟩
       rintro v' H2 ⟨rfl,hv⟩
       have:=hv vs (aD.tup (I1.sh.trans g) hq);rw[hu]at this;cases this
       exact⟨rfl,ru⟩
     . exact p1.elim
 |_=>rw[e]at p1;exact p1.elim
theorem nJ:JU K (fun xs H Q=>∃ p ys,xs=[.ref p] /\ ((SqL K H p ys /\ ∀ l,H l=none->Q (.ref l) (upd H l (.tup ys))) \/ (SqT K H p ys /\ Q (.ref p) H))) fE:=by
 intro S H x v rr Q I hx e k
 cases x with
 | lst xs=>
   cases e;obtain⟨p,vs,rfl,hq,r⟩:=js hx
   refine⟨p,vs,rfl,.inl ⟨hq,fun l hl=>k _ _ _ (aZ.both I hl) ?_⟩⟩
   show Rep K _ _ _;unfold Rep
   exact⟨l,vs,rfl,SqT.new bE,r.mono (aZ.both (o:=.tup vs) I hl).s⟩
 | tup xs=>
   cases e;obtain⟨p,vs,rfl,hq,r⟩:=fM hx
   refine⟨p,vs,rfl,.inr ⟨aD.tup I hq,k _ S H (aZ.refl I) ?_⟩⟩
   show Rep K _ _ _;unfold Rep
   exact⟨p,vs,rfl,hq,r⟩
 |_=>cases e
theorem AG:JR K (zk K) Cb:=by
 intro S H x y v u rr Q I hx hy e k;unfold Cb at e;split at e
 . rename_i x xs ys;split at e
   . rename_i hl;cases e;obtain⟨p,vs,rfl,hq,r⟩:=fM hx;obtain⟨p2,vs2,rfl,hq2,r2⟩:=fM hy;obtain⟨w,t,rfl,h1,h2⟩:=r.cons_inv
     refine⟨p,p2,w ::t,vs2,rfl,rfl,aD.tup I hq,aD.tup I hq2,by simp,by rw[r.length,r2.length];exact hl,fun z=>?_,fun z l hl'=>?_⟩
     . refine k _ S H (aZ.refl I) ?_;show Rep K _ _ _;unfold Rep
       have:ys=[]:=by have:=r2.length;rw[z]at this;simpa using this.symm
       subst this
       exact⟨p,w ::t,rfl,hq,by rw[List.append_nil];exact r⟩
     . refine k _ _ _ (aZ.both I hl') ?_;show Rep K _ _ _;unfold Rep
       exact⟨l,_,rfl,SqT.new bE,(r.append r2).mono (aZ.both (o:=.tup (w ::t++vs2)) I hl').s⟩
   . cases e
 . cases e
end
end L2.P
namespace L2.E
open PySem PySem.Spec PyProof.Rows L2
theorem yi{X:Cx}{cl:List (Str×Addr)}{py spos:Pos}(hN:X.N.Nodup)(hiy:X.N[i]?=some y)(hy:Loc X.env.scope y)(S:lK X scope cl M ι x)(hc:X.calm=true)(hi:QI X (.Name x px) iter wi)(hcd:∀ C s₀ H₀ ex,QT (blk X scope cl (M++[x]) C s₀ H₀ ex) c tc)(he:∀ C s₀ H₀ ex,QE (blk X scope cl (M++[x]) C s₀ H₀ ex) elt te)
  (hsw:swapsWith (.ListComp elt [⟨.Name x px,iter,[c],0⟩] scope pos) (some (.Name y py)) spos.line X.env=pure true:=by rfl) (hf:X.fn y=true \/ X.env.scope.names.lookup y=some .local:=by first|exact .inl rfl|exact .inr rfl|assumption)
  (hs:∀ v,foldedSetIterable iter X.env v=pure v:=by intro _;rfl):QS X (.Assign [.Name y py] (.ListComp elt [⟨.Name x px,iter,[c],0⟩] scope pos) spos) (tD (tW wi ι tc te) (iw i)):=⟨xF S hc hi.out (fun a b c d=>(hcd a b c d).out) (fun a b c d=>(he a b c d).out) hN hiy hy hsw hf hs⟩
end L2.E
namespace L2.P
open PySem PySem.Spec PyProof.Rows L2 L2.E
end L2.P
namespace L2.E
open PySem PySem.Spec PyProof.Rows L2
noncomputable def Dr(K:PySem.W.Frag)(tl:TE):TI:=fun σ H R=>tl σ H fun x H1=>∃ a,x=.ref a /\ (((∃ xs,SqL K H1 a xs) /\ R (Itl K a) H1) \/ ((∃ xs,SqT K H1 a xs) /\ R (Itt K a) H1))
theorem kU{X:Cx}{tg l:Expr}{tl:TE}(hl:QE X l tl):QI X tg l (Dr X.K tl):=⟨by
 intro pins s σ H R I h
 refine thn (hl.out pins s σ H _ I h) fun v s1 ⟨x,H1,I1,r1,q1⟩=>?_
 obtain⟨a,e,q⟩:=q1;subst e;cases r1
 rcases q with⟨⟨xs,hq⟩,q⟩|⟨⟨xs,hq⟩,q⟩
 . obtain⟨its,rv,p,hz⟩:=I1.list hq;refine wpAny_pyIter_list p.isList ?_
   refine⟨s1.heap.objs.size,[s1.heap.objs.size],_,_,H1,rfl,I1.kept (t':=s1.toks) fun b o e=>Heap.get?_push_of_some _ e,yh a _,⟨_,Heap.get?_push_size _ rfl,rfl,rfl⟩,fun b hb=>?_,q⟩
   have e:b=s1.heap.objs.size:=by simpa using hb
   subst e;exact I1.wx (Nat.le_refl _) (I1.hok.fresh (Nat.le_refl _))
 . obtain⟨its,rv,p,hz⟩:=I1.tuple hq;refine wpAny_pyIter_tuple (show s1.heap.IsTuple a its.toArray from p) ?_
   refine⟨s1.heap.objs.size,[s1.heap.objs.size],_,_,H1,rfl,I1.kept (t':=s1.toks) fun b o e=>Heap.get?_push_of_some _ e,rm a _,⟨_,Heap.get?_push_size _ rfl,rfl,rfl⟩,fun b hb=>?_,q⟩
   have e:b=s1.heap.objs.size:=by simpa using hb
   subst e
   exact I1.wx (Nat.le_refl _) (I1.hok.fresh (Nat.le_refl _))⟩
end L2.E
namespace L2.P
open PySem PySem.Spec PyProof.Rows L2 L2.E
section
variable{K:PySem.W.Frag}{cls:String->Option Addr}{W:XW}{Av G S₀ S S' H H' B B':Hp}{ρ:ah}{σ:St}{Q:VK}
theorem i7{xs:List PV}{k:Nat}{y:PV}(hy:xs[k]?=some y):xs.drop k=y ::xs.drop (k+1):=by
 have hk:k<xs.length:=(List.getElem?_eq_some_iff.mp hy).1
 rw[List.drop_eq_getElem_cons hk]
 congr 1
 have:=List.getElem?_eq_getElem hk;rw[hy]at this
 exact(Option.some.inj this).symm
theorem t7{g:TG}{tb:TS}{D:Ends}{r:RV}{v:V}{xs:List PV}{S1 H1:Hp}(L:List PV->ah->OS)(I:SR K cls Av G S₀ ρ σ S H)(w1:aZ S H S1 H1)(r1:jr K H S1 H1 r v)(ei:jJ r=some xs)(p:fW K cls W Av G S₀ S D (L xs ρ))(nil:∀ ρ,L [] ρ=.nx ρ)
  (turn:∀{ρ σ S H x v ys} {N:St->Hp->Prop},SR K cls Av G S₀ ρ σ S H->Rep K S x v->fW K cls W Av G S₀ S D (L (x ::ys) ρ)->(∀ ρ' σ' S' H',SR K cls Av G S₀ ρ' σ' S' H'->aD S S'->fW K cls W Av G S₀ S' D (L ys ρ')->N σ' H')->g v σ H fun σ2 H2=>tb { D with nx:=N,ct:=N,bk:=D.nx } σ2 H2):
  ∃ a,v=.ref a /\ (((∃ xs,SqL K H1 a xs) /\ ∃ W:Nat->Nat->St->Hp->Prop,(∃ m,W 0 m σ H1) /\ ∀ i m σ H,W i m σ H ->
    ((Itl K a).stop i H /\ D.nx σ H) \/ ((Itl K a).go i H /\ ∃ N:St->Hp->Prop,(∀ σ' H',N σ' H'->∃ m',m'<m /\ W (i+1) m' σ' H') /\ ∀ x H',(Itl K a).yld i H x H'->g x σ H' fun σ2 H2=>tb { D with nx:=N,ct:=N,bk:=D.nx } σ2 H2)) \/
    ((∃ xs,SqT K H1 a xs) /\ ∃ W:Nat->Nat->St->Hp->Prop,(∃ m,W 0 m σ H1) /\ ∀ i m σ H,W i m σ H ->
    ((Itt K a).stop i H /\ D.nx σ H) \/ ((Itt K a).go i H /\ ∃ N:St->Hp->Prop,(∀ σ' H',N σ' H'->∃ m',m'<m /\ W (i+1) m' σ' H') /\ ∀ x H',(Itt K a).yld i H x H'->g x σ H' fun σ2 H2=>tb { D with nx:=N,ct:=N,bk:=D.nx } σ2 H2))):=by
 have es:jD r=some (.lst xs) \/ jD r=some (.tup xs):=by
  cases r with
  |sh y=>cases y<;>cases ei<;>first|exact .inl rfl|exact .inr rfl
  |fr ys=>cases ei;exact .inl rfl
  |al ys=>cases ei
 rcases es with es|es
 . obtain⟨S2,w2,s2,rx⟩:=r1.share w1 es;have I2:=I.grow w2;unfold Rep at rx;obtain⟨a,vs,rfl,hq,hr⟩:=rx
   refine⟨a,rfl,.inl ⟨⟨vs,aD.seq I2.sh hq⟩,?_⟩⟩
   refine yM (xs:=vs) (fun k σ' H'=>∃ ρ' S',SR K cls Av G S₀ ρ' σ' S' H' /\ aD S2 S' /\ fW K cls W Av G S₀ S' D (L (xs.drop k) ρ'))
    ⟨ρ,S2,I2,aD.refl _,p.back w2.s⟩ ?_ ?_ ?_
   . rintro k σ' H' _ ⟨ρ',S',I',s',_⟩
     exact aD.seq (s'.trans I'.sh) hq
   . rintro k x σ' H' hx ⟨ρ',S',I',s',p'⟩
     obtain⟨y,hy,ry⟩:=hr.Fh hx;rw[i7 hy]at p'
     exact turn I' (Rep.mono s' ry) p' fun ρ2 σ2 S3 H3 I3 s3 p3=>⟨ρ2,S3,I3,s'.trans s3,p3⟩
   . rintro σ' H' ⟨ρ',S',I',s',p'⟩
     rw[List.drop_of_length_le (by rw[hr.length];exact Nat.le_refl _),nil]at p';exact p' σ' S' H' I' (aD.refl _)
 . obtain⟨S2,w2,s2,rx⟩:=r1.share w1 es;have I2:=I.grow w2;unfold Rep at rx;obtain⟨a,vs,rfl,hq,hr⟩:=rx
   refine⟨a,rfl,.inr ⟨⟨vs,aD.tup I2.sh hq⟩,?_⟩⟩
   refine AM (xs:=vs) (fun k σ' H'=>∃ ρ' S',SR K cls Av G S₀ ρ' σ' S' H' /\ aD S2 S' /\ fW K cls W Av G S₀ S' D (L (xs.drop k) ρ'))
    ⟨ρ,S2,I2,aD.refl _,p.back w2.s⟩ ?_ ?_ ?_
   . rintro k σ' H' _ ⟨ρ',S',I',s',_⟩
     exact aD.tup (s'.trans I'.sh) hq
   . rintro k x σ' H' hx ⟨ρ',S',I',s',p'⟩
     obtain⟨y,hy,ry⟩:=hr.Fh hx;rw[i7 hy]at p'
     exact turn I' (Rep.mono s' ry) p' fun ρ2 σ2 S3 H3 I3 s3 p3=>⟨ρ2,S3,I3,s'.trans s3,p3⟩
   . rintro σ' H' ⟨ρ',S',I',s',p'⟩
     rw[List.drop_of_length_le (by rw[hr.length];exact Nat.le_refl _),nil]at p';exact p' σ' S' H' I' (aD.refl _)
theorem oH{i:Nat}{tl:TE}{tb:TS}{ml:ah->OE}{mb:ah->OS}(hl:JE K cls W tl ml)(hb:JS K cls W tb mb):JS K cls W (zo (Dr K tl) (iw i) tb) (gP i ml mb):=by
 intro Av G S₀ ρ σ S H D I p;refine hl Av G S₀ ρ σ S H _ I ?_;unfold gP at p
 cases em:ml ρ with
 |exc c fs=>rw[em]at p;exact fun a C S' H' w x=>p a C σ S' H' (I.grow w) w.s x
 |bad=>rw[em]at p;exact p
 | ok r=>
   rw[em]at p;intro v S1 H1 w1 r1;simp only[OE.bU]at p
   cases ei:jJ r with
   |none=>rw[ei]at p;exact p.elim
   | some xs=>
     rw[ei]at p
     exact t7 (fun xs ρ=>cG i mb xs ρ) I w1 r1 ei p (fun _=>rfl) fun I' rx p' hN=>rY hb I' rx p' hN
theorem qK{i j:Nat}{tl:TE}{tb:TS}{ml:ah->OE}{mb:ah->OS}(hl:JE K cls W tl ml)(hb:JS K cls W tb mb):JS K cls W (zo (Dr K tl) (g2 K i j) tb) (iP i j ml mb):=by
 intro Av G S₀ ρ σ S H D I p;refine hl Av G S₀ ρ σ S H _ I ?_;unfold iP at p
 cases em:ml ρ with
 |exc c fs=>rw[em]at p;exact fun a C S' H' w x=>p a C σ S' H' (I.grow w) w.s x
 |bad=>rw[em]at p;exact p
 | ok r=>
   rw[em]at p;intro v S1 H1 w1 r1;simp only[OE.bU]at p
   cases ei:jJ r with
   |none=>rw[ei]at p;exact p.elim
   | some xs=>
     rw[ei]at p
     refine t7 (fun xs ρ=>fQ i j mb xs ρ) I w1 r1 ei p (fun _=>rfl) fun {ρ' σ' S' H' x v' ys N} I' rx p' hN=>?_
     have hx:∃ y z,x=.tup [y,z]:=by
      unfold fQ at p';split at p'
      . rename_i h;cases h
      . rename_i h1 h2;cases h2;exact⟨_,_,rfl⟩
      . exact p'.elim
     obtain⟨y,z,rfl⟩:=hx;unfold Rep at rx;obtain⟨t,vs,rfl,hq,hr⟩:=rx;obtain⟨v1,t1,rfl,h1,h2⟩:=hr.cons_inv;obtain⟨v2,t2,rfl,h3,h4⟩:=h2.cons_inv;have:=h4.nil_inv;subst this;exact vm hb I' h1 h3 (aD.tup I'.sh hq) p' hN
end
end L2.P
namespace L2.P
open PySem
end L2.P
namespace L2.P
open PySem PySem.Spec PyProof.Rows L2 L2.E
end L2.P
namespace L2.P
open PySem
noncomputable def sY(x:Str):List PV:=x.cps.toList.map fun c=>.str ⟨#[c]⟩
noncomputable def sT(ml:ah->OE)(ι:List Nat)(me:ah->OE):ah->OE:=fun ρ=>(ml ρ).bind fun r=>match r.pv with
 |.str x=>noX (cf me (dg ι ρ) (sY x))
 |_=>.bad
@[simp] theorem t9(ml:ah->OE)(ι:List Nat)(me:ah->OE)(ρ:ah):sT ml ι me ρ=((ml ρ).bind fun r=>match r.pv with
  |.str x=>noX (cf me (dg ι ρ) (sY x))
  |_=>.bad):=rfl
noncomputable def xG:PV->Option RV
 |.str x=>if x.length=1 then some (.sh (.int (x.cps.getD 0 0:Nat)))else none
 |_=>none
noncomputable def q9:PV->Option RV
 |.int i=>if i.natAbs.log2<1920 then some (.sh (.str (toString i)))else none
 |_=>none
noncomputable def yD:PV->PV->Option RV
 |.int i,.int j=>some (.sh (.int (if j>i then j else i)))
 |_,_=>none
noncomputable def bR:PV->PV->Option RV
 |.tup xs,.tup ys=>if xs.length+ys.length<=lim then some (.sh (.tup (xs++ys)))else none
 |_,_=>none
end L2.P
namespace L2
open PySem PySem.Spec PyProof.Rows
noncomputable def Its(x:Str):It:=⟨fun i _=>i<x.cps.size,fun i H v H'=>H'=H /\ ∃ c,x.cps[i]?=some c /\ v=.str ⟨#[c]⟩,fun i _=>x.cps.size<=i⟩
theorem uz{P:Program}{w:World}{K:PySem.W.Frag}{tg:Expr}{it:Addr}{x:Str}{t:Tok}{n:String}(hn:["enumerate","zip","dict_itemiterator","dict_reverseitemiterator","odict_iterator","itertools.zip_longest","itertools.pairwise"].contains n=false)
  (W:∀ A:Around,A.handled=none->Walks P w A it [it] [it] x.cps.size (SignAt x) (fun i h=>h.IsStrIter it n x t i))
  (De:∀(A:Around) (s:Shared) (i:Nat) (Q:Option Value->Shared->Prop) (E:Value->Shared->Prop),A.handled=none->s.heap.IsStrIter it n x t i->x.cps[i]?=none->(∀ h',Heap.ExtBut it s.heap h'->Q none { s with heap:=h' })->wpAny (model P w) A (pyNext (.ref it)) Q E s)
  (Se:∀(A:Around) (i:Nat) (s:Shared) (Q:Value->Shared->Prop) (E:Value->Shared->Prop),s.heap.IsStrIter it n x t i->Q (.ref it) s->wpAny (model P w) A (pyIter (.ref it)) Q E s):Turn P w K tg (Its x) [it] it (fun i h=>h.IsStrIter it n x t i) where
 mem:=by simp
 obj:=fun i h st b hb=>by
  have e:b=it:=by simpa using hb
  subst e;obtain⟨o,e,c,d⟩:=st
  exact⟨o,e,fun v z=>by rw[d]at z;cases z⟩
 keep:=fun i h h' st k=>let ⟨o,e,r⟩:=st;⟨o,k it (by simp) o e,r⟩
 item:=by
  intro X hP hw hK hc i pins s σ H E I hf st hg;subst hP hw hK;obtain⟨f0,f1,f2,f3,f4,f5⟩:=hf it (by simp)
  refine(W X.A (I.ok.hd hc)).item i s _ _ hg st fun v h' tk hv st' kk=>?_
  obtain⟨c,u,hc1,rfl⟩:=hv
  have I1:Inv X pins σ H { s with heap:=h',toks:=tk }:=I.turned (fun b o hb e=>kk b o (by simpa using hb) e) f0 f1 f3 f4 f5
  obtain⟨o,e,cc,d⟩:=id st'
  exact⟨_,rfl,wX (s:={ s with heap:=h',toks:=tk }) e cc d hn ⟨.str ⟨#[c]⟩,H,I1,⟨u,rfl⟩,⟨rfl,c,hc1,rfl⟩,st',fun b hb=>(hf b hb).1⟩⟩
 done:=by
  intro X hP hw hK hc i pins s σ H E I hf st hg;subst hP hw hK;obtain⟨f0,f1,f2,f3,f4,f5⟩:=hf it (by simp)
  have hg':x.cps.size<=i:=hg
  exact De X.A s i _ _ (I.ok.hd hc) st (by simp;omega) fun h' eb=>⟨rfl,I.turned (t':=s.toks) (fun b o hb e=>eb b o hb e) f0 f1 f3 f4 f5⟩
 self:=fun A i s Q E st h=>Se A i s Q E st h
noncomputable def DG(tl:TE):TI:=fun σ H R=>tl σ H fun v H1=>∃ x,v=.str x /\ R (Its x) H1
theorem Dl{X:Cx}{tg:Expr}{l:Expr}{tl:TE}(hl:PE X l tl):PI X tg l (DG tl):=by
 intro pins s σ H R I h
 refine thn (hl pins s σ H _ I h) fun v s1 ⟨y,H1,I1,r1,q1⟩=>?_
 obtain⟨x,e,q⟩:=q1;subst e;obtain⟨t,rfl⟩:=r1
 have hf:∀ b∈[s1.heap.objs.size],kZ X pins H1 b:=fun b hb=>by
  have e:b=s1.heap.objs.size:=by simpa using hb
  subst e;exact I1.wx (Nat.le_refl _) (I1.hok.fresh (Nat.le_refl _))
 cases ha:x.cps.all (·<128)with
 | false=>
   exact wpAny_pyIter_wide ha ⟨s1.heap.objs.size,[s1.heap.objs.size],_,_,H1,rfl,I1.kept (t':=s1.toks) fun b o e=>Heap.get?_push_of_some _ e,
    uz (n:="str_iterator") (x:=x) (t:=t) (by decide) (fun A' hA=>Walks.strWide hA _ x t) (fun A s i Q E hA st hx hQ=>wpAny_pyNext_wide_end hA st hx hQ) (fun A i s Q E st h=>wpAny_pyIter_striter_wide st h),⟨_,Heap.get?_push_size _ rfl,rfl,rfl⟩,hf,q⟩
 | true=>
   exact wpAny_pyIter_ascii ha ⟨s1.heap.objs.size,[s1.heap.objs.size],_,_,H1,rfl,I1.kept (t':=s1.toks) fun b o e=>Heap.get?_push_of_some _ e,
    uz (n:="str_ascii_iterator") (x:=x) (t:=t) (by decide) (fun A' hA=>Walks.strAscii hA _ x t) (fun A s i Q E hA st hx hQ=>wpAny_pyNext_ascii_end hA st hx hQ) (fun A i s Q E st h=>wpAny_pyIter_striter_ascii st h),⟨_,Heap.get?_push_size _ rfl,rfl,rfl⟩,hf,q⟩
end L2
theorem L2.E.boot_ord:PySem.bootBuiltins "ord" = some (.builtin "ord"):=by decide +kernel
theorem L2.E.boot_max:PySem.bootBuiltins "max" = some (.builtin "max"):=by decide +kernel
namespace L2.P
open PySem PySem.Spec PyProof.Rows L2 L2.E
theorem Ei{X:L2.Cx}{tg l:Expr}{tl:TE}(h:QE X l tl):QI X tg l (DG tl):=⟨Dl h.out⟩
section
variable{K:PySem.W.Frag}{cls:String->Option Addr}{W:XW}{Av G S₀ S S' H H' B B':Hp}{ρ:ah}{σ:St}{Q:VK}{F:Nat->List Addr}
theorem zb{tl te:TE}{ml me:ah->OE}{ι:List Nat}(hι:ι.Nodup)(hl:JE K cls W tl ml)(he:JE K cls (fun _ _ _ _=>False) te me):JE K cls W (qG (DG tl) ι te) (sT ml ι me):=by
 intro Av G S₀ ρ σ S H Q I p
 refine hl.go I p fun r v S1 H1 I1 w1 r1 p1=>?_
 have ra:=r1.rd I1.sh
 cases e:r.pv with
 | str x=>
   rw[e]at p1 ra;have hv:=gV ra;subst hv
   refine⟨x,rfl,?_⟩
   dsimp only at p1
   cases em:cf me (dg ι ρ) (sY x)with
   |exc c fs=>rw[em]at p1;exact p1.elim
   |bad=>rw[em]at p1;exact p1.elim
   | ok ys=>
     rw[em]at p1;simp only[noX]at p1;split at p1
     . rename_i hlen
       have hcl:(sY x).length=x.cps.size:=by simp[sY]
       refine lX hι he I1 em hlen (fun k H' y g hx=>?_) (fun H' g=>by show x.cps.size<=(sY x).length;rw[hcl];exact Nat.le_refl _) fun D S' H' w nD sD ⟨us,hD,rr⟩=>p1 (.ref D) S' H' w ⟨D,us,rfl,nD,sD,hD,rr⟩
       have hk:k<x.cps.size:=by rw[<- hcl];exact(List.getElem?_eq_some_iff.mp hx).1
       refine⟨hk,?_⟩
       rintro v' H2 ⟨rfl,c,hc,rfl⟩
       refine⟨rfl,?_⟩
       have hy:y=.str ⟨#[c]⟩:=by
        unfold sY at hx;rw[List.getElem?_map]at hx
        have:x.cps.toList[k]?=some c:=by simpa using hc
        rw[this]at hx
        exact(Option.some.inj hx).symm
       subst hy;unfold Rep;rfl
     . exact p1.elim
 |_=>rw[e]at p1;exact p1.elim
theorem Dg:JU K (fun xs H Q=>∃ x,xs=[.str x] /\ x.length=1 /\ Q (.int (x.cps.getD 0 0:Nat)) H) xG:=by
 intro S H x v rr Q I hx e k
 cases x with
 | str x=>
   by_cases hl:x.length=1
   . have e':xG (.str x)=some (.sh (.int (x.cps.getD 0 0:Nat))):=if_pos hl
     rw[e']at e;cases e
     exact⟨x,by rw[gV hx],hl,k _ S H (aZ.refl I) (by show Rep K S _ _;unfold Rep;rfl)⟩
   . have e':xG (.str x)=none:=if_neg hl
     rw[e']at e;cases e
 |_=>cases e
theorem CV:JU K (fun xs H Q=>∃ i:Int,xs=[.int i] /\ i.natAbs.log2<1920 /\ Q (.str (toString i)) H) q9:=by
 intro S H x v rr Q I hx e k
 cases x with
 | int i=>
   by_cases hl:i.natAbs.log2<1920
   . have e':q9 (.int i)=some (.sh (.str (toString i))):=if_pos hl
     rw[e']at e;cases e
     exact⟨i,by rw[de hx],hl,k _ S H (aZ.refl I) (by show Rep K S _ _;unfold Rep;rfl)⟩
   . have e':q9 (.int i)=none:=if_neg hl
     rw[e']at e;cases e
 |_=>cases e
theorem BO{ta tb:TE}{ma mb:ah->OE}(ha:JE K cls W ta ma)(hb:JE K cls W tb mb):JE K cls W (tCB (fun xs H Q=>∃ i j:Int,xs=[.int i,.int j] /\ Q (.int (if j>i then j else i)) H) (fL ta (fL tb kb))) (mOp yD ma mb):=by
 intro Av G S₀ ρ σ S H Q I p
 refine ha.go I p fun a v S1 H1 I1 w1 r1 p1=>?_
 refine hb.go I1 p1 fun b u S2 H2 I2 w2 r2 p2=>?_
 have ra:=r1.rd I1.sh;have rb:=r2.rd I2.sh
 cases ea:a.pv with
 | int i=>
   cases eb:b.pv with
   | int j=>
     rw[ea]at ra p2;rw[eb]at rb p2;have hv:=de ra;have hu:=de rb;subst hv hu
     exact⟨i,j,rfl,p2 _ S2 H2 (aZ.refl I2.sh) (by show Rep K S2 _ _;unfold Rep;rfl)⟩
   |_=>rw[ea,eb]at p2;exact p2.elim
 |_=>rw[ea]at p2;exact p2.elim
end
end L2.P
namespace HT
open PySem PyProof.Rows
theorem yF{prog:Program}{w:World}{A:Around}{E:Value->Shared->Prop}{s:Shared}{t b:Addr}{ws:List Value}{Q:Value->Shared->Prop}(ht:IsTup s.heap t ([]:List Value).toArray)(hb:IsTup s.heap b ws.toArray)(h:Q (.ref b) s):wpAny (model prog w) A (binaryOp .Add (.ref t) (.ref b)) Q E s:=by
 obtain⟨⟨cls,dd,data,sl⟩,ho,hc,n,hd⟩:=id ht;obtain⟨⟨cls2,dd2,data2,sl2⟩,ho2,hc2,n2,hd2⟩:=id hb;simp only at hc hd hc2 hd2;subst hc hd hc2 hd2
 exact concat_meets ⟨_,ho,rfl⟩ ⟨_,ho2,rfl⟩ noFill_tuple_add seq_tuple_add PySem.F.slot_tuple_add PySem.F.entry_tuple_add (PySem.F.args_tuple_add_2 _ _)
   (tuple_addW0 t b #[] ws.toArray n n2 dd dd2 sl sl2 rfl) ⟨ho,ho2,h⟩
end HT
namespace L2
open PySem PySem.Spec PyProof.Rows
noncomputable def zc(K:PySem.W.Frag):R2:=fun x y H Q=>(∃ a b ys,x=.ref a /\ y=.ref b /\ SqT K H a [] /\ SqT K H b ys /\ Q (.ref b) H) \/ zk K x y H Q
theorem df{X:Cx}:OpR X (binaryOp .Add) (zc X.K):=by
 intro pins s σ H x y v u Q I rx ry h
 rcases h with⟨a,b,ys,rfl,rfl,ha,hb,q⟩|h
 . cases rx;cases ry;obtain⟨its,r1,p1,_⟩:=I.tuple ha;obtain⟨its2,r2,p2,_⟩:=I.tuple hb
   have:its=[]:=r1.ql.mpr rfl
   subst this;exact HT.yF p1 p2 ⟨.ref b,H,I,rfl,q⟩
 . exact AJ pins s σ H x y v u Q I rx ry h
end L2
namespace L2.P
open PySem PySem.Spec PyProof.Rows L2 L2.E
theorem dh{K:PySem.W.Frag}:JR K (zc K) bR:=by
 intro S H x y v u rr Q I hx hy e k;unfold bR at e;split at e
 . rename_i xs ys;split at e
   . rename_i hl;cases e
     cases xs with
     | nil=>
       obtain⟨p,vs,rfl,hq,r⟩:=fM hx;obtain⟨p2,vs2,rfl,hq2,r2⟩:=fM hy
       have hvs:vs=[]:=by have:=r.length;simpa using this
       subst hvs;refine .inl ⟨p,p2,vs2,rfl,rfl,aD.tup I hq,aD.tup I hq2,k _ S H (aZ.refl I) ?_⟩;show Rep K _ _ _;unfold Rep
       exact⟨p2,vs2,rfl,hq2,by rw[List.nil_append];exact r2⟩
     |cons x xs=>exact .inr (AG S H (.tup (x ::xs)) (.tup ys) v u _ Q I hx hy (if_pos hl) k)
   . cases e
 . cases e
end L2.P
namespace HT
open PySem PyProof.Rows
open AutoSeq1 (wpAny_loadPart')
end HT
namespace L2
open PySem PySem.Spec PyProof.Rows
end L2
namespace L2.P
open PySem PySem.Spec PyProof.Rows L2 L2.E
end L2.P
namespace L2.P
open PySem
noncomputable def qV:List PV->OE:=fun _=>.bad
end L2.P
namespace L2
open PySem PySem.Spec PyProof.Rows
end L2
namespace L2.E
open PySem PySem.Spec PyProof.Rows L2
end L2.E
namespace L2.P
open PySem PySem.Spec PyProof.Rows L2 L2.E
end L2.P
namespace L2.E
open PySem PySem.Spec PyProof.Rows L2
end L2.E
namespace L2.P
open PySem PySem.Spec PyProof.Rows L2 L2.E
end L2.P
namespace L2.E
open PySem PySem.Spec PyProof.Rows L2
end L2.E
namespace L2.P
open PySem PySem.Spec PyProof.Rows L2 L2.E
section
variable{K:PySem.W.Frag}{cls:String->Option Addr}{W:XW}
theorem jq{P:Program}{w:World}{mg:Str->Option Value}{base:Heap}{CX:CXT}{k:Nat}{f:Addr}{fd:FuncData}{ps:List Str}:cn P w K mg base CX k f fd ps (spP K cls qV) where
 len:=fun vs H Q E h=>by obtain⟨_,_,_,_,h⟩:=h;exact h.elim
 run:=fun A outer s H args us vs Q E hr e0 b r h=>by obtain⟨_,_,_,_,h⟩:=h;exact h.elim
end
end L2.P
namespace L2.E
open PySem PySem.Spec PyProof.Rows L2
end L2.E
namespace L2.P
open PySem PySem.Spec PyProof.Rows L2 L2.E
end L2.P
namespace L2.E
open PySem PySem.Spec PyProof.Rows L2
end L2.E
namespace L2.P
open PySem PySem.Spec PyProof.Rows L2 L2.E
end L2.P
namespace L2.E
open PySem PySem.Spec PyProof.Rows L2
theorem gR{N P:List Str}{sc:Scope}(a:sc.kind=.function:=by rfl)(b:sc.isCoroutine=false:=by rfl)(c:sc.isGenerator=false:=by rfl)(d:N.Nodup:=by decide +kernel)(e:N.take P.length=P:=by rfl)
  (f:∀ x∈P,sc.names.lookup x=some .local \/ sc.names.lookup x=some .cell:=by decide +kernel) (g:∀ y∈sc.names,y.2≠.free:=by decide +kernel):bu N P sc:=⟨a,b,c,d,e,f,g⟩
structure Ent(K:PySem.W.Frag)(mg:Str->Option Value)(x:Str)(st:Stmt)(f:Addr)(d:FuncData)(ps:List Str):Prop where
 F:Fun K x x st f d
 m:mg x=some (.ref f)
 b:Binds K d ps []
structure Fd(K:PySem.W.Frag)(x:Str)(st:Stmt)(f:Addr)(d:FuncData):Prop where
 a:PySem.W.nsIn K mainGlobals x=some (some (.ref f))
 F:Fun K x x st f d
section
variable{K:PySem.W.Frag}{mg:Str->Option Value}{h:Heap}{x:Str}{st:Stmt}{f:Addr}{d:FuncData}
theorem dZ{oc:Value}{od an:Option Addr}{osl:Array (Option Value)}{kV doc pm cdv ct:Value}(a:PySem.W.nsIn K mainGlobals x=some (some (.ref f)))
  (l:K.lookup f=some ⟨oc,od,.func (PySem.W.fnOf x x (g8 st) (eU st) (aJ st) .none kV doc pm an cdv ct),osl⟩) (c:PySem.W.codeIn K cdv x=true) (k:PySem.W.keepIn K (.ref f)=true):
  Fd K x st f (PySem.W.fnOf x x (g8 st) (eU st) (aJ st) .none kV doc pm an cdv ct):=⟨a,Dz l c k⟩
theorem Fd.e{ps:List Str}(H:Fd K x st f d)(X:K.In h)(G:h.Ns mainGlobals mg)
  (hb:∀(kV doc pm:Value) (an:Option Addr) (cdv ct:Value) (us:List Value),us.length=ps.length->bindArgs (PySem.W.fnOf x x (g8 st) (eU st) (aJ st) .none kV doc pm an cdv ct) ⟨us,[]⟩=pure (ps.zip us)):Ent K mg x st f d ps:=⟨H.F,PySem.W.mg_of X G H.a,H.F.binds hb⟩
theorem Fd.e1{a:Str}(H:Fd K x st f d)(X:K.In h)(G:h.Ns mainGlobals mg)
  (hb:∀(kV doc pm:Value) (an:Option Addr) (cdv ct i:Value),bindArgs (PySem.W.fnOf x x (g8 st) (eU st) (aJ st) .none kV doc pm an cdv ct) ⟨[i],[]⟩=pure [(a,i)]:=by intros;rfl):Ent K mg x st f d [a]:=
 H.e X G fun p q r s t u us hl=>match us,hl with|[_],_=>hb p q r s t u _
theorem Fd.e2{a b:Str}(H:Fd K x st f d)(X:K.In h)(G:h.Ns mainGlobals mg)
  (hb:∀(kV doc pm:Value) (an:Option Addr) (cdv ct i j:Value),bindArgs (PySem.W.fnOf x x (g8 st) (eU st) (aJ st) .none kV doc pm an cdv ct) ⟨[i,j],[]⟩=pure [(a,i),(b,j)]:=by intros;rfl):Ent K mg x st f d [a,b]:=
 H.e X G fun p q r s t u us hl=>match us,hl with|[_,_],_=>hb p q r s t u _ _
theorem Fd.e3{a b c:Str}(H:Fd K x st f d)(X:K.In h)(G:h.Ns mainGlobals mg)
  (hb:∀(kV doc pm:Value) (an:Option Addr) (cdv ct i j k:Value),bindArgs (PySem.W.fnOf x x (g8 st) (eU st) (aJ st) .none kV doc pm an cdv ct) ⟨[i,j,k],[]⟩=pure [(a,i),(b,j),(c,k)]:=by intros;rfl):Ent K mg x st f d [a,b,c]:=
 H.e X G fun p q r s t u us hl=>match us,hl with|[_,_,_],_=>hb p q r s t u _ _ _
end
theorem qz{X:Cx}{pos:Pos}(i:Nat)(h7:X.N.Nodup)(h10:QE X e te)(h8:X.N[i]?=some x:=by rfl)(h9:Loc X.env.scope x:=by first|exact Or.inl rfl|exact Or.inr rfl)
  (h11:autoParam (swapsWith e (some (.Name x pos')) pos.line X.env=pure false) L2.qau._auto_1) (h12:autoParam (X.fn x=true \/ X.env.scope.names.lookup x=some .local) L2.qau._auto_1):QS X (.Assign [.Name x pos'] e pos) (tD te (iw i)):=Dc h7 h8 h9 h10 h11 h12
theorem qx{X:Cx}{j k:Nat}{f:Addr}{fd:FuncData}{ps:List Str}{sp:Sp}{W:XW}{x:Str}{st:Stmt}{p pos:Pos}{e:Expr}{es:List Expr}{t:TA}(h15:cn X.prog X.w X.K X.mg X.base (CXE X.prog X.w) j f fd ps sp)(E:Ent X.K X.mg x st f fd ps)(h16:ip k X.A)(h22:Thr X W)(h23:QA X (e ::es) t)
  (hj:j<=k:=by decide) (h17:Gl X x:=by rfl) (h24:autoParam ((x==Str.ofString "__debug__")=false) L2.qau._auto_1) (h25:autoParam (starEach (e ::es) X.env=(false,eval e X.env) ::starEach es X.env) L2.qau._auto_1) (h26:autoParam (((backTo pos (starEach es X.env)).any fun x=>x.1)=false) L2.qau._auto_1):
  QE X (.Call (.Name x p) (e ::es) [] pos) (ph sp [] W t):=bb (h15.mono hj) h16 h17 E.m E.F.kp E.b .nil h22 h23 h24 h25 h26
theorem iV{X:Cx}(h11:X.mg "len" = none)(h:QE X e te)(h10:Gl X "len":=by rfl)(hs:isStar e=false:=by rfl)(h16:autoParam (starEach [e] X.env=(false,eval e X.env) ::starEach [] X.env) L2.qau._auto_1)(h17:autoParam (((backTo pos (starEach [] X.env)).any fun x=>x.1)=false) L2.qau._auto_1):
  QE X (.Call (.Name "len" p) [e] [] pos) (tCB (fun xs H Q=>∃ p ys,xs=[.ref p] /\ (SqL X.K H p ys \/ SqT X.K H p ys) /\ Q (.int ys.length) H) (fL te kb)):=gT tS h10 h11 boot_len (aa h aq hs) (by decide) (by decide) h16 h17
theorem qi(h7:IxR X r)(h8:QE X a ta)(h9:QE X b tb)(h10:tG b:=by exact fun _ _=>rfl):QE X (.Subscript a b pos) (tOp r ta tb):=E9 h7 h8 h9 h10
theorem bO(h8:OpR X (compareOp op) r)(h9:QE X a ta)(h10:QE X b tb)(h11:behindInMarks op b=false:=by exact pz _):QT X (.Compare a [op] [b] pos) (rR (tOp r ta tb)):=xg h8 h9 h10 h11
theorem qap{X:Cx}{apos cpos pos:Pos}{r:V->List V->Hp->VK->Prop}(h15:MtR X "list.append" r)(h16:QE X o to)(h:QE X e te)(hs:isStar e=false:=by rfl)
  (h18:autoParam (attributeBase o "append" X.env (eval o X.env)=eval o X.env) L2.qau._auto_1) (h19:autoParam (((((backTo cpos (starEach [e] X.env)).all fun x=>!x.1)&&(backToKw cpos (keywordEach [] X.env)).all fun x=>x.1.isSome)&&decide (([e].length+([]:List Keyword).length+if([]:List Keyword).isEmpty=true then 0 else 1)<30))=true) L2.qau._auto_1)
  (h20:autoParam ((apos.endLine==cpos.line)=true) L2.qau._auto_1) (h21:autoParam (starEach [e] X.env=(false,eval e X.env) ::starEach [] X.env) L2.qau._auto_1) (h22:autoParam (((backTo cpos (starEach [] X.env)).any fun x=>x.1)=false) L2.qau._auto_1) (h5:autoParam (swapsWith (.Call (.Attribute o "append" apos) [e] [] cpos) none pos.line X.env=pure false) L2.qau._auto_1):
  QS X (.Expr (.Call (.Attribute o "append" apos) [e] [] cpos) pos) (qU (tBM X.K "list" r to (fL te kb))):=qj (Ai PySem.F.plainAttrs_list PySem.F.slot_list_append PySem.F.type_list_append h15 h16 (aa h aq hs) h18 h19 h20 h21 h22) h5
end L2.E
namespace L2.P
open PySem PySem.Spec PyProof.Rows L2 L2.E
theorem rE{K:PySem.W.Frag}{cls:String->Option Addr}{mk:ah->OE}(h:JP K cls te i mp)(k:JE K cls (fun _ _ _ _=>False) tk mk):JP K cls (tOp (BI K) te tk) i (pIx i mp mk):=Fp h k
end L2.P
namespace L2.P
open PySem
theorem OV.get_nil(t:OV):t.get []=some t:=by unfold OV.get;rfl
theorem sC{ρ:ah}{i:Nat}{s:Sl}{t:OV}(h:ρ[i]?=some (some s))(hs:slT s=some t):dP i ρ=some t:=by
 unfold dP;rw[h];exact hs
theorem sa{ρ:ah}{i:Nat}{t:OV}(h:dP i ρ=some t):subAt i bL ρ=some t:=by
 unfold subAt;rw[h];simp[bL,OV.get_nil]
theorem aS{m n:ah->OS}{ρ ρ':ah}(h:m ρ=.nx ρ'):aR m n ρ=n ρ':=by unfold aR;rw[h];rfl
theorem q8{m n:ah->OS}{ρ ρ':ah}{v:RV}(h:m ρ=.rt ρ' v):aR m n ρ=.rt ρ' v:=by unfold aR;rw[h];rfl
theorem Bo(ρ:ah):aY ρ=.nx ρ:=rfl
theorem pZ{c:ah->OT}{a b:ah->OS}{ρ:ah}(h:c ρ=.ok true):bj c a b ρ=a ρ:=by unfold bj;rw[h];rfl
theorem vj{c:ah->OT}{a b:ah->OS}{ρ:ah}(h:c ρ=.ok false):bj c a b ρ=b ρ:=by unfold bj;rw[h];rfl
theorem sk{c:ah->OT}{a n:ah->OS}{ρ:ah}(h:c ρ=.ok false):aR (bj c a aY) n ρ=n ρ:=aS (Eq.trans (vj h) (Bo _))
theorem st{c:ah->OT}{a b n:ah->OS}{ρ ρ':ah}{r:RV}(h:c ρ=.ok true)(k:a ρ=.rt ρ' r):aR (bj c a b) n ρ=.rt ρ' r:=q8 (Eq.trans (pZ h) k)
end L2.P
namespace L2.E
open PySem PySem.Spec PyProof.Rows L2
end L2.E
namespace L2.P
open PySem PySem.Spec PyProof.Rows L2 L2.E
end L2.P
namespace L2.E
open PySem PySem.Spec PyProof.Rows L2
end L2.E
namespace L2.P
open PySem PySem.Spec PyProof.Rows L2 L2.E
end L2.P
namespace L2.E
open PySem PySem.Spec PyProof.Rows L2
end L2.E
namespace L2.P
open PySem PySem.Spec PyProof.Rows L2 L2.E
end L2.P
namespace L2.P
open PySem PySem.Spec PyProof.Rows L2 L2.E PySem.SeqAt
end L2.P
namespace L2.P
open PySem
noncomputable def ins(n:Int):List Int->List Int
 |[]=>[n]
 |m ::ms=>if n<=m then n ::m ::ms else m ::ins n ms
end L2.P
namespace L2
open PySem PySem.Spec PyProof.Rows PySem.W
end L2
namespace L2.E
open PySem PySem.Spec PyProof.Rows L2
end L2.E
namespace L2.P
open PySem PySem.Spec PyProof.Rows L2 L2.E
end L2.P
namespace L2.P
open PySem
end L2.P
namespace L2.E
open PySem PySem.Spec PyProof.Rows L2
end L2.E
namespace L2.P
open PySem PySem.Spec PyProof.Rows L2 L2.E
end L2.P
namespace L2.P
open PySem
noncomputable def nH(x:PV)(lo hi:Option Int):Option RV:=match x with
 |.tup xs=>some (.sh (.tup (jt xs lo hi)))
 |_=>none
noncomputable def cY(ma ml mh:ah->OE):ah->OE:=fun ρ=>(ma ρ).bind fun a=>(ml ρ).bind fun l=>(mh ρ).bind fun h=>oE (nH a.pv (lI l.pv) (lI h.pv))
noncomputable def p6:PV->Option (List Int)
 |.tup xs=>pj xs
 |_=>none
abbrev DT:=List (List Int×PV)
noncomputable def ni:List PV->Option DT
 |[]=>some []
 |.tup [k,v] ::r=>(p6 k).bind fun k=>(ni r).map ((k,v) ::·)
 |_ ::_=>none
noncomputable def kx(d:DT)(k:List Int)(v:PV):DT:=if(d.any fun p=>decide (p.1=k))=true then d.map (fun p=>if p.1=k then(p.1,v)else p)else d++[(k,v)]
noncomputable def B6(ps:DT):DT:=ps.foldl (fun d p=>kx d p.1 p.2) []
noncomputable def az(d:DT):List PV:=d.map fun p=>.tup [.tup (p.1.map .int),p.2]
end L2.P
namespace HT
open PySem PyProof.Rows
theorem rN:entryFor table "dict.update.loop" = some Builtin.«dict.update.loop»:=entryFor_of_tree (by kernel_rfl)
theorem mm:plainId "dict.update.loop" = true:=by decide +kernel
structure xt{prog:Program}{w:World}{κ:Type}[DecidableEq κ](kk:KeyKind prog w κ)(h:Heap)(q:List κ×Addr×Value)(u:Value):Prop where
 pr:∃ p,u=.ref p /\ IsTup h p #[.ref q.2.1,q.2.2]
 ky:IsTupleKey kk h q.1 q.2.1
section
variable{prog:Program}{w:World}{κ:Type}[DecidableEq κ]{kk:KeyKind prog w κ}{A:Around}{R:Result->Shared->Prop}
noncomputable def putAll(xs:List (List κ×Addr×Value)):List (List κ×Addr×Value)->List (List κ×Addr×Value)
 |[]=>xs
 |q ::r=>putAll (storedH xs q.1 q.2.1 q.2.2) r
theorem xt.keep{h h':Heap}{q:List κ×Addr×Value}{u:Value}(x:xt kk h q u)(k:∀ b o,o.cls=.type "tuple" -> h.get? b=some o->h'.get? b=some o):xt kk h' q u:=by
 obtain⟨⟨p,e,o,h1,h2,h3⟩,o2,its,n,h4,h5,h6⟩:=x
 exact⟨⟨p,e,o,k _ _ h2 h1,h2,h3⟩,o2,its,n,k _ _ h5 h4,h5,h6⟩
theorem ud(xs:List (List κ×Addr×Value))(k:List κ)(b:Addr)(u:Value):(storedH xs k b u).length<=xs.length+1:=by
 unfold storedH;split
 . rw[List.length_map];omega
 . rw[List.length_append];simp
theorem yg{d it t:Addr}(hu:A.units+1<cLine)(hh:A.handled=none){items:List Value}{qs:List (List κ×Addr×Value)}(hl:qs.length=items.length){h₀:Heap}{g0:Shared}
  (hR:∀ h' tk,h'.DictOfH (tupleKind kk) d (putAll [] qs)->(∀ b o,b≠it->b≠d->h₀.get? b=some o->h'.get? b=some o)->R (.ok (.ret .none)) { g0 with heap:=h',toks:=tk }):
  ∀(n i:Nat) (h:Heap) (tk:Nat) (xs:List (List κ×Addr×Value)),items.length - i=n->i<=items.length->h.IsTupleIter it t i->IsTup h t items.toArray->h.DictOfH (tupleKind kk) d xs->xs.length+n<=sizeLine->it≠d ->
    (∀(j:Nat) q u,qs[j]?=some q->items[j]?=some u->xt kk h q u)->putAll xs (qs.drop i)=putAll [] qs->(∀ b o,b≠it->b≠d->h₀.get? b=some o->h.get? b=some o) ->
    codeAny (model prog w) A (.builtin "dict.update.loop" ⟨[.ref d,.ref it,.int i 0,.none],[]⟩) R { g0 with heap:=h,toks:=tk }:=by
 intro n
 induction n with
 | zero=>
   intro i h tk xs hn hi hit ht hd hz hne hp hq hk
   have hin:i=items.length:=by omega
   refine codeAny_builtin rN ?_;rw[Around.under_plainId mm _];show wpAny _ A.in1 (pyNext (.ref it) >>= _) _ _ _;refine wpAny_bind (wpAny_pyNext_tuple_end (s:={ g0 with heap:=h,toks:=tk }) (A:=A.in1) hh hit ht (by simp;omega) fun h' he=>?_)
   have hqs:putAll xs (qs.drop i)=xs:=by rw[List.drop_eq_nil_of_le (by omega)];rfl
   rw[hqs]at hq;obtain⟨o,es,ep,e1,e2,e3,e4,e5,e6⟩:=hd;refine wpAny_bind (wpAny_pure ?_);refine wpAny_pure (hR h' tk (hq ▸ ⟨o,es,ep,he _ _ (Ne.symm hne) e1,e2,e3,e4,fun x hx=>?_,e6⟩) fun b ob h1 h2 e=>he b ob h1 (hk b ob h1 h2 e));obtain⟨o',its,m,f1,f2,f3⟩:=e5 x hx
   refine⟨o',its,m,he _ _ ?_ f1,f2,f3⟩
   rintro rfl
   obtain⟨oi,g1,g2,_⟩:=hit;rw[f1]at g1;cases g1;rw[f2]at g2;simp at g2
 | succ n ih=>
   intro i h tk xs hn hi hit ht hd hz hne hp hq hk
   have hlt:i<items.length:=by omega
   obtain⟨u,hu1⟩:∃ u,items[i]?=some u:=⟨items[i],List.getElem?_eq_getElem hlt⟩
   obtain⟨q,hq1⟩:∃ q,qs[i]?=some q:=⟨qs[i]'(by omega),List.getElem?_eq_getElem (by omega)⟩
   refine codeAny_builtin rN ?_;rw[Around.under_plainId mm _];show wpAny _ A.in1 (pyNext (.ref it) >>= _) _ _ _;refine wpAny_bind (wpAny_pyNext_tuple_item (s:={ g0 with heap:=h,toks:=tk }) (A:=A.in1) hit ht (by simpa using hu1) fun h1 hit1 hs1=>?_)
   have nit:∀ b o,o.cls=.type "tuple" -> h.get? b=some o->b≠it:=by
    rintro b o hc hb rfl
    obtain⟨oi,g1,g2,_⟩:=hit;rw[hb]at g1;cases g1;rw[hc]at g2;simp at g2
   have k1:∀ b o,o.cls=.type "tuple" -> h.get? b=some o->h1.get? b=some o:=fun b o hc hb=>(hs1.2 b (nit b o hc hb)).trans hb
   have pa:=(hp i q u hq1 hu1).keep k1
   have hd1:h1.DictOfH (tupleKind kk) d xs:=by
    obtain⟨o,es,ep,e1,e2,e3,e4,e5,e6⟩:=hd
    refine⟨o,es,ep,(hs1.2 d (Ne.symm hne)).trans e1,e2,e3,e4,fun x hx=>?_,e6⟩
    obtain⟨o',its,m,f1,f2,f3⟩:=e5 x hx
    exact⟨o',its,m,k1 _ _ f2 f1,f2,f3⟩
   obtain⟨⟨p,rfl,o,o1,o2,m,o3⟩,hky⟩:=id pa;refine wpAny_bind (wpAny_holding ?_);refine wpAny_bind (wpAny_tryCatch ?_);unfold Builtin.Dict.pairItems;refine wpAny_bind (wpAny_typeOf (T:="tuple") ⟨o,o1,o2⟩ ?_);rw[if_pos (by decide)];refine wpAny_bind (wpAny_seqItems o1 o3 (wpAny_pure ?_));refine wpAny_holding (wpAny_dictSet_heap (knd:=tupleKind kk) (tupleKind_room_in1 hu) hky hd1 (fun h2 hd2 hs2=>?_) (by omega));refine wpAny_pure ⟨plainId_quiet mm _,?_⟩;obtain⟨od,_,_,d1,d2,_⟩:=id hd1
   have k2:∀ b o,o.cls=.type "tuple" -> h1.get? b=some o->h2.get? b=some o:=fun b o hc hb=>(hs2.2 b (by
    rintro rfl
    rw[d1]at hb;cases hb
    rw[d2.1]at hc;simp at hc)).trans hb
   have k3:∀ b o,o.cls=.type "tuple" -> h.get? b=some o->h2.get? b=some o:=fun b o hc hb=>k2 b o hc (k1 b o hc hb)
   refine ih (i+1) h2 _ (storedH xs q.1 q.2.1 q.2.2) (by omega) (by omega) ?_ ?_ hd2 (by have:=ud xs q.1 q.2.1 q.2.2;omega) hne (fun j q' u' e1 e2=>(hp j q' u' e1 e2).keep k3) ?_ ?_
   . obtain⟨oi,g1,g2⟩:=hit1
     exact⟨oi,(hs2.2 it hne).trans g1,g2⟩
   . obtain⟨ot,g1,g2,g3⟩:=ht
     exact⟨ot,k3 _ _ g2 g1,g2,g3⟩
   . have e:qs.drop i = q ::qs.drop (i + 1):=by
      have hi':i<qs.length:=by omega
      rw[List.drop_eq_getElem_cons hi'];rw[List.getElem?_eq_getElem hi']at hq1;rw[Option.some.inj hq1]
     rw[e]at hq;exact hq
   . intro b ob h1' h2' e
     exact(hs2.2 b h2').trans ((hs1.2 b h1').trans (hk b ob h1' h2' e))
end
section
variable{prog:Program}{w:World}{κ:Type}[DecidableEq κ]{kk:KeyKind prog w κ}{A:Around}{E:Value->Shared->Prop}{s:Shared}
theorem xC:typeLookup (.type "tuple") "keys" = pure none:=by rw[typeLookup_type,builtinLookup_eq_fast];kernel_rfl
theorem Aq{t:Addr}{items:Array Value}{n:Nat}{sl:Array (Option Value)}{Q:Option Value->Shared->Prop}(ht:s.heap.get? t=some ⟨.type "tuple",none,.seq items n,sl⟩)(hh:A.handled=none)(h:∀ h' tk,(∀ b o,s.heap.get? b=some o->h'.get? b=some o)->Q none { s with heap:=h',toks:=tk }):wpAny (model prog w) A (getAttr? (.ref t) "keys") Q E s:=by
 obtain⟨hp,g,d,tk,os⟩:=s
 have hT:∀ tk',(⟨hp,g,d,tk',os⟩:Shared).TypeIs (.ref t) "tuple":=fun _=>⟨_,ht,rfl⟩
 have f1:=sub_AttributeError;have f3:=F.slot_tuple_getattribute.lookup;have f4:=F.slot_tuple_getattribute.bind (.ref t);have f5:=am_tuple_getattr_none;unfold getAttr? getAttrBy? getAttrBy
 repeat (any_goals (first|assumption|exact hT _|((with_reducible show wpAny _ _ (call (Value.builtin "tuple.__getattribute__") _ _) _ _ _);refine call_meets F.slot_tuple_getattribute (hT _) am_entry_tuple_getattribute (F.args_tuple_getattribute_2 _ _) (meets_getattribute_miss_tuple t items n sl "keys" _ xC (by decide)) ⟨ht,hh,fun h' tk' e hx=>?_⟩)|wp_step))
 obtain⟨t',u',he⟩:=hx.there;show wpAny _ _ (getattributeRaised _ _ _ _ _ _ _) _ _ _;unfold getattributeRaised
 repeat (any_goals (first|assumption|wp_step))
 exact h _ _ hx.keeps
theorem xI{t:Addr}{items:List Value}{n:Nat}{sl:Array (Option Value)}{qs:List (List κ×Addr×Value)}{Q:Value->Shared->Prop}(hu:A.units+2<cLine)(hh:A.handled=none)
  (ht:s.heap.get? t=some ⟨.type "tuple",none,.seq items.toArray n,sl⟩) (hl:qs.length=items.length) (hz:items.length<=sizeLine) (hp:∀(j:Nat) q u,qs[j]?=some q->items[j]?=some u->xt kk s.heap q u)
  (h:∀ d h' tk,s.heap.objs.size<=d->h'.DictOfH (tupleKind kk) d (putAll [] qs)->(∀ b o,s.heap.get? b=some o->h'.get? b=some o)->Q (.ref d) { s with heap:=h',toks:=tk }):
  wpAny (model prog w) A (call (.type "dict") [.ref t]) Q E s:=by
 refine callType_codes (Q₁:=fun obj s₁=>obj=.ref s.heap.objs.size /\ s₁={ s with heap:=s.heap.push { cls:=.type "dict",data:=.dict #[] } }) F.kt_called_dict (F.kt_typeCall_dict_1 _) F.entry_dict_init (kt_code_dict_new _ ⟨rfl,rfl⟩) ?_
 rintro obj s₁ ⟨rfl,rfl⟩
 have hnew:(s.heap.push { cls:=.type "dict",data:=.dict #[] }).DictOfH (tupleKind kk) s.heap.objs.size []:=Heap.DictOfH.new s.heap
 refine⟨hnew.typeIs,F.args_dict_init_2 _ _,?_⟩
 unfold Builtin.«dict.__init__»;refine wpAny_bind ?_;unfold Builtin.Dict.selfAndRest;refine wpAny_bind (wpAny_notOrdered_dict hnew.typeIs ?_);show wpAny _ _ (pure (s.heap.objs.size,[Value.ref t])) _ _ _;refine wpAny_pure ?_;show wpAny _ _ (Builtin.Dict.updateFrom "dict.__init__" s.heap.objs.size (.ref t) [] .none) _ _ _
 have ht1:(s.heap.push { cls:=.type "dict",data:=.dict #[] }).get? t=some ⟨.type "tuple",none,.seq items.toArray n,sl⟩:=Heap.get?_push_of_some _ ht
 unfold Builtin.Dict.updateFrom;refine wpAny_bind (wpAny_typeOf (T:="tuple") ⟨_,ht1,rfl⟩ ?_);rw[if_pos (by decide)];refine wpAny_bind (Aq (A:=A.in1.in1) ht1 hh fun h1 tk1 k1=>?_);refine wpAny_ite_split (fun _=>?_) (fun z=>absurd rfl z);refine wpAny_bind (wpAny_rule ?_);have ht2:=k1 _ _ ht1;refine wpAny_bind (wpAny_pyIter_tuple (items:=items.toArray) ⟨_,ht2,rfl,_,rfl⟩ ?_);refine wpAny_pure ⟨plainId_quiet mm _,?_⟩;have hd0:=k1 _ _ (Heap.get?_push_size s.heap (o:={ cls:=.type "dict",data:=.dict #[] }) rfl)
 have hlt:s.heap.objs.size<h1.objs.size:=Heap.lt_size hd0
 have k2:∀ b o,s.heap.get? b=some o->(h1.push { cls:=.type "tuple_iterator",data:=.fields #[.ref t,.int 0 0] }).get? b=some o:=fun b o e=>Heap.get?_push_of_some _ (k1 b o (Heap.get?_push_of_some _ e))
 refine yg (kk:=kk) (A:=A.in1) (d:=s.heap.objs.size) (it:=h1.objs.size) (t:=t) (items:=items) (qs:=qs) (h₀:=s.heap) (g0:=s) hu hh hl (fun h' tk hd hk=>⟨rfl,h _ h' tk (Nat.le_refl _) hd fun b o e=>hk b o ?_ ?_ e⟩) items.length 0 _ _ [] (by omega) (Nat.zero_le _) ⟨_,Heap.get?_push_size _ rfl,rfl,rfl⟩ ⟨_,Heap.get?_push_of_some _ ht2,rfl,_,rfl⟩ ⟨_,#[],0,Heap.get?_push_of_some _ hd0,⟨rfl,rfl,rfl⟩,rfl,rfl,fun _ hx=>by simp at hx,List.nodup_nil⟩ (by simpa using hz) (Nat.ne_of_gt hlt) (fun j q u e1 e2=>(hp j q u e1 e2).keep fun b o _ e=>k2 b o e) (by simp) (fun b o _ _ e=>k2 b o e)
 . exact Nat.ne_of_lt (Nat.lt_trans (Heap.lt_size e) hlt)
 . exact Nat.ne_of_lt (Heap.lt_size e)
end
section
variable{prog:Program}{w:World}{A:Around}{E:Value->Shared->Prop}{s:Shared}
noncomputable abbrev ItI(h:Heap)(it d:Addr)(i n ep:Nat)(a f x y:Value):Prop:=h.get? it=some { cls:=.type "dict_itemiterator",dict:=none,data:=.fields #[a,f,.ref d,.int i 0,.int n 0,.int ep 0,x,y],slots:=#[] }
theorem j1{h:Heap}{it:Addr}{c:Value}{dd:Option Addr}{xs:Array Value}{sl:Array (Option Value)}(e:h.get? it=some ⟨c,dd,.fields xs,sl⟩)(k:Nat)(v:Value):(h.update it (Obj.mapFields fun x=>x.setIfInBounds k v)).get? it=some ⟨c,dd,.fields (xs.setIfInBounds k v),sl⟩:=Heap.get?_update_self _ e rfl
theorem Cn:Builtin.Dict_items.ownsTuple ((Manifest.find? "dict_itemiterator").elim "dict_itemiterator" fun x=>x.tpName)=true:=by decide +kernel
theorem A9{it d:Addr}{i ep:Nat}{oc:Value}{dd:Option Addr}{sl:Array (Option Value)}{es:Array DictEntry}{x y:Value}{e:DictEntry}{Q:Option Value->Shared->Prop}(hit:ItI s.heap it d i es.size ep .none (.bool false) x y)(hod:s.heap.get? d=some ⟨oc,dd,.dict es ep,sl⟩)(hx:es[i]?=some e)
  (hQ:∀ h' p,s.heap.objs.size<=p->ItI h' it d (i+1) es.size ep (.int p 0) (.bool false) e.key e.val->h'.get? p=some { cls:=.type "tuple",data:=.seq #[e.key,e.val] }->(∀ b o,b≠it->s.heap.get? b=some o->h'.get? b=some o)->Q (some (.ref p)) { s with heap:=h' }):wpAny (model prog w) A (pyNext (.ref it)) Q E s:=by
 obtain⟨hp,g,dr,tk,os⟩:=s
 have hT:Shared.TypeIs ⟨hp,g,dr,tk,os⟩ (.ref it) "dict_itemiterator":=⟨_,hit,rfl⟩
 unfold pyNext;refine wpAny_bind (wpAny_attempt (wpAny_callSpecial?_slot (name:=Str.ofString "__next__") hT F.slot_dict_itemiterator_next (wpAny_call_entry F.slot_dict_itemiterator_next hT F.entry_dict_itemiterator_next ?_ (F.args_dict_itemiterator_next_1 _))));have m1:=mroOf_itemiter
 have hne:((es.size:Int) != (es.size:Int))=false:=by simp
 have hne2:((ep:Int) != (ep:Int))=false:=by simp
 have hi0:¬ ((i:Int)<0):=by omega
 unfold Builtin.«dict_itemiterator.__next__»
 repeat (any_goals (first|assumption|wp_step))
 all_goals(try simp only[hne,hne2,Bool.false_eq_true,if_false,hi0,Int.toNat_natCast,hx])
 repeat (any_goals (first|assumption|wp_step))
 simp only[Cn,if_true];rw[if_neg (by decide)]
 have hil:it<hp.objs.size:=Heap.lt_size hit
 have e0:=j1 hit (2+1) (rawInt ((i:Int)+1))
 generalize hh1:hp.update it (Obj.mapFields fun x=>x.setIfInBounds (2+1) (rawInt ((i:Int)+1)))=h1 at e0 ⊢
 have z1:h1.objs.size=hp.objs.size:=by rw[<- hh1,Heap.size_update]
 have k1:∀ b o,b≠it->hp.get? b=some o->h1.get? b=some o:=fun b o hb q=>by rw[<- hh1];exact(Heap.get?_update_other _ _ (Ne.symm hb)).trans q
 refine⟨_,rfl,wpAny_pure (hQ _ _ (Nat.le_of_eq z1.symm) (j1 (j1 (j1 (j1 (Heap.get?_push_of_some _ e0) _ _) _ _) _ _) _ _) ?_ ?_)⟩
 . have q:=Heap.get?_push_size h1 (o:={ cls:=.type "tuple",data:=.seq #[e.key,e.val] }) rfl
   have ne:it≠h1.objs.size:=by rw[z1];exact Nat.ne_of_lt hil
   exact(Heap.get?_update_other _ _ ne).trans ((Heap.get?_update_other _ _ ne).trans ((Heap.get?_update_other _ _ ne).trans ((Heap.get?_update_other _ _ ne).trans q)))
 . intro b o hb q
   have ne:it≠b:=Ne.symm hb
   exact(Heap.get?_update_other _ _ ne).trans ((Heap.get?_update_other _ _ ne).trans ((Heap.get?_update_other _ _ ne).trans ((Heap.get?_update_other _ _ ne).trans (Heap.get?_push_of_some _ (k1 b o hb q)))))
end
section
variable{prog:Program}{w:World}{A:Around}{E:Value->Shared->Prop}{s:Shared}
theorem AU{it d p:Addr}{i ep:Nat}{oc:Value}{dd:Option Addr}{sl:Array (Option Value)}{es:Array DictEntry}{f:Bool}{x y:Value}{oa:Obj}{e:DictEntry}{Q:Option Value->Shared->Prop}(hit:ItI s.heap it d i es.size ep (.int p 0) (.bool f) x y)(ha:s.heap.get? p=some oa)(hpi:p≠it)
  (hod:s.heap.get? d=some ⟨oc,dd,.dict es ep,sl⟩) (hx:es[i]?=some e)
  (hQ:∀ h' q,s.heap.objs.size<=q->ItI h' it d (i+1) es.size ep (.int p 0) (.bool true) x y->h'.get? q=some { cls:=.type "tuple",data:=.seq #[e.key,e.val] }->(∀ b o,b≠it->s.heap.get? b=some o->h'.get? b=some o)->Q (some (.ref q)) { s with heap:=h' }):wpAny (model prog w) A (pyNext (.ref it)) Q E s:=by
 obtain⟨hp,g,dr,tk,os⟩:=s
 have hT:Shared.TypeIs ⟨hp,g,dr,tk,os⟩ (.ref it) "dict_itemiterator":=⟨_,hit,rfl⟩
 unfold pyNext;refine wpAny_bind (wpAny_attempt (wpAny_callSpecial?_slot (name:=Str.ofString "__next__") hT F.slot_dict_itemiterator_next (wpAny_call_entry F.slot_dict_itemiterator_next hT F.entry_dict_itemiterator_next ?_ (F.args_dict_itemiterator_next_1 _))));have m1:=mroOf_itemiter
 have hne:((es.size:Int) != (es.size:Int))=false:=by simp
 have hne2:((ep:Int) != (ep:Int))=false:=by simp
 have hi0:¬ ((i:Int)<0):=by omega
 unfold Builtin.«dict_itemiterator.__next__»
 repeat (any_goals (first|assumption|wp_step))
 all_goals(try simp only[hne,hne2,Bool.false_eq_true,if_false,hi0,Int.toNat_natCast,hx])
 repeat (any_goals (first|assumption|wp_step))
 simp only[Cn,if_true];rw[if_neg (by decide)]
 have hil:it<hp.objs.size:=Heap.lt_size hit
 have e0:=j1 hit (2+1) (rawInt ((i:Int)+1))
 generalize hh1:hp.update it (Obj.mapFields fun x=>x.setIfInBounds (2+1) (rawInt ((i:Int)+1)))=h1 at e0 ⊢
 have z1:h1.objs.size=hp.objs.size:=by rw[<- hh1,Heap.size_update]
 have k1:∀ b o,b≠it->hp.get? b=some o->h1.get? b=some o:=fun b o hb q=>by rw[<- hh1];exact(Heap.get?_update_other _ _ (Ne.symm hb)).trans q
 have q:=Heap.get?_push_size h1 (o:={ cls:=.type "tuple",data:=.seq #[e.key,e.val] }) rfl
 have ne:it≠h1.objs.size:=by rw[z1];exact Nat.ne_of_lt hil
 have e1:=Heap.get?_push_of_some { cls:=.type "tuple",data:=.seq #[e.key,e.val] } e0;rw[Int.toNat_natCast];refine PySem.W.kdx_alive (o:=oa) (Heap.get?_push_of_some _ (k1 p oa hpi ha)) ?_;simp only[Option.isNone_some,Bool.false_eq_true,if_false];refine wpAny_bind (wpAny_field e1 rfl (x:=.bool f) rfl ?_)
 cases f with
 | true=>
   rw[if_neg (show ¬ ((Value.bool true != Value.bool true)=true) from Bool.false_ne_true)]
   repeat (any_goals (first|assumption|wp_step))
   try simp only[Bool.false_eq_true,if_false]
   repeat (any_goals (first|assumption|wp_step))
   exact⟨_,rfl,wpAny_pure (hQ _ _ (Nat.le_of_eq z1.symm) e1 q fun b o hb z=>Heap.get?_push_of_some _ (k1 b o hb z))⟩
 | false=>
   rw[if_pos (show(Value.bool false != Value.bool true)=true from rfl)]
   repeat (any_goals (first|assumption|wp_step))
   try simp only[Bool.false_eq_true,if_false]
   repeat (any_goals (first|assumption|wp_step))
   exact⟨_,rfl,wpAny_pure (hQ _ _ (Nat.le_of_eq z1.symm) (j1 e1 _ _) ((Heap.get?_update_other _ _ ne).trans q) fun b o hb z=>(Heap.get?_update_other _ _ (Ne.symm hb)).trans (Heap.get?_push_of_some _ (k1 b o hb z)))⟩
theorem zZ{it d:Addr}{i ep:Nat}{oc:Value}{dd:Option Addr}{sl:Array (Option Value)}{es:Array DictEntry}{a f x y:Value}{Q:Option Value->Shared->Prop}(hh:A.handled=none)(hit:ItI s.heap it d i es.size ep a f x y)
  (hod:s.heap.get? d=some ⟨oc,dd,.dict es ep,sl⟩) (hx:es[i]?=none)
  (hQ:∀ h',(∀ b o,b≠it->s.heap.get? b=some o->h'.get? b=some o)->Q none { s with heap:=h' }):wpAny (model prog w) A (pyNext (.ref it)) Q E s:=by
 obtain⟨hp,g,dr,tk,os⟩:=s
 have hT:Shared.TypeIs ⟨hp,g,dr,tk,os⟩ (.ref it) "dict_itemiterator":=⟨_,hit,rfl⟩
 unfold pyNext;refine wpAny_bind (wpAny_attempt (wpAny_callSpecial?_slot (name:=Str.ofString "__next__") hT F.slot_dict_itemiterator_next (wpAny_call_entry F.slot_dict_itemiterator_next hT F.entry_dict_itemiterator_next ?_ (F.args_dict_itemiterator_next_1 _))));have m1:=mroOf_itemiter
 have hne:((es.size:Int) != (es.size:Int))=false:=by simp
 have hne2:((ep:Int) != (ep:Int))=false:=by simp
 have hi0:¬ ((i:Int)<0):=by omega
 unfold Builtin.«dict_itemiterator.__next__»
 repeat (any_goals (first|assumption|wp_step))
 all_goals(try simp only[hne,hne2,Bool.false_eq_true,if_false,hi0,Int.toNat_natCast,hx])
 repeat (any_goals (first|assumption|wp_step))
 unfold raiseNew;refine wpAny_bind (wpAny_handled ?_);rw[show A.in1.handled=none from hh];refine wpAny_bind (wpAny_pure (wpAny_throw ?_));refine wpAny_bind (wpAny_isInstance (T:="StopIteration") (b:=true) ⟨_,Heap.get?_push_size _ rfl,rfl⟩ isSubtype_stop ?_);refine wpAny_pure (hQ _ fun b o hb z=>Heap.get?_push_of_some _ (Heap.get?_push_of_some _ ?_))
 exact(Heap.get?_update_other _ _ (Ne.symm hb)).trans z
end
noncomputable def ItS(h:Heap)(it d S:Addr)(i n ep:Nat):Prop:=(∃ x y,ItI h it d i n ep .none (.bool false) x y) \/ ∃ p f x y oa,ItI h it d i n ep (.int (p:Nat) 0) (.bool f) x y /\ h.get? p=some oa /\ p≠it /\ p≠S
noncomputable abbrev CF(e:DictEntry):Obj:={ cls:=.type "tuple",data:=.seq #[e.key,e.val] }
structure Got(lo:Nat)(es:Array DictEntry)(h:Heap)(as:List Addr):Prop where
 rise:as.Pairwise (·<·)
 low:∀ a∈as,lo<=a /\ a<h.objs.size
 holds:∀(j:Nat) a,as[j]?=some a->∃ e,es[j]?=some e /\ h.get? a=some (CF e)
section
variable{prog:Program}{w:World}{A:Around}{R:Result->Shared->Prop}
theorem vP{S it d:Addr}{ep:Nat}{oc:Value}{dd:Option Addr}{sl:Array (Option Value)}{es:Array DictEntry}(hh:A.handled=none)(hSi:S≠it)(hSd:d≠S)(hdi:d≠it)(hn:es.size<=sizeLine)(res:Value){h₀:Heap}{g0:Shared}(lo:Nat)(hlo:S<lo /\ it<lo)
  (hR:∀ h' tk acc c as,(∀ b o,b≠S->b≠it->h₀.get? b=some o->h'.get? b=some o)->h'.get? S=some { cls:=.type "list",dict:=none,data:=.seq acc c,slots:=#[] }->acc.toList=as.map Value.ref->as.length=es.size->Got lo es h' as->R (.ok (.ret res)) { g0 with heap:=h',toks:=tk }):
  ∀(k i:Nat) (h:Heap) (tk c:Nat) (acc:Array Value) (as:List Addr),es.size - i=k->i<=es.size->ItS h it d S i es.size ep->h.get? d=some ⟨oc,dd,.dict es ep,sl⟩->(∀ b o,b≠S->b≠it->h₀.get? b=some o->h.get? b=some o) ->
    h.get? S=some { cls:=.type "list",dict:=none,data:=.seq acc c,slots:=#[] }->acc.toList=as.map Value.ref->as.length=i->lo<=h.objs.size->Got lo es h as ->
    codeAny (model prog w) A (.builtin "list.extend.loop" ⟨[.ref S,.ref it,res],[]⟩) R { g0 with heap:=h,toks:=tk }:=by
 have neI:∀ a:Nat,lo<=a->a≠it:=fun a l=>Nat.ne_of_gt (Nat.lt_of_lt_of_le hlo.2 l)
 have neS:∀ a:Nat,lo<=a->a≠S:=fun a l=>Nat.ne_of_gt (Nat.lt_of_lt_of_le hlo.1 l)
 intro k
 induction k with
 | zero=>
   intro i h tk c acc as hk hi hst hD hkp hS hacc hal hl G
   have hx:es[i]?=none:=Array.getElem?_eq_none (by omega)
   refine codeAny_builtin F.entry_extend_loop ?_;rw[Around.under_plainId F.plain_extend_loop _];show wpAny _ A.in1 (pyNext (.ref it) >>= _) _ _ _
   have fin:∀ h',(∀ b o,b≠it->h.get? b=some o->h'.get? b=some o)->wpAny (model prog w) A.in1 (ret res) (fun fin s'=>match fin with|.done f=>R (.ok f) s'|.again c'=>c'.quiet=true /\ codeAny (model prog w) A c' R s') (fun e s'=>R (.error e) s') { g0 with heap:=h',toks:=tk }:=fun h' hk'=>
    wpAny_pure (hR h' tk acc c as (fun b o h1 h2 e=>hk' b o h2 (hkp b o h1 h2 e)) (hk' S _ hSi hS) hacc (by omega) ⟨G.rise,fun a ha=>⟨(G.low a ha).1,by
     obtain⟨j,hj⟩:=List.mem_iff_getElem?.mp ha;obtain⟨e,_,e2⟩:=G.holds j a hj
     exact Heap.lt_size (hk' a _ (neI a (G.low a ha).1) e2)⟩,fun j a hj=>by
     obtain⟨e,e1,e2⟩:=G.holds j a hj
     exact⟨e,e1,hk' a _ (neI a (G.low a (List.mem_of_getElem? hj)).1) e2⟩⟩)
   rcases hst with⟨x,y,hit⟩|⟨p,f,x,y,oa,hit,ha,hpi,hpS⟩
   . exact wpAny_bind (zZ (s:={ g0 with heap:=h,toks:=tk }) (A:=A.in1) hh hit hD hx fin)
   . exact wpAny_bind (zZ (s:={ g0 with heap:=h,toks:=tk }) (A:=A.in1) hh hit hD hx fin)
 | succ k ih=>
   intro i h tk c acc as hk hi hst hD hkp hS hacc hal hl G
   have hlt:i<es.size:=by omega
   have hx:es[i]?=some es[i]:=Array.getElem?_eq_getElem hlt
   have hsz:acc.size=i:=by rw[<- Array.length_toList,hacc,List.length_map,hal]
   refine codeAny_builtin F.entry_extend_loop ?_;rw[Around.under_plainId F.plain_extend_loop _];show wpAny _ A.in1 (pyNext (.ref it) >>= _) _ _ _
   have go:∀ h' p,h.objs.size<=p->ItS h' it d S (i+1) es.size ep->h'.get? p=some (CF es[i])->(∀ b o,b≠it->h.get? b=some o->h'.get? b=some o) ->
     wpAny (model prog w) A.in1 (updateSeq S (·.push (.ref p)) >>= fun _=>again (.builtin "list.extend.loop" ⟨[.ref S,.ref it,res],[]⟩)) (fun fin s'=>match fin with|.done f=>R (.ok f) s'|.again c'=>c'.quiet=true /\ codeAny (model prog w) A c' R s') (fun e s'=>R (.error e) s') { g0 with heap:=h',toks:=tk }:=by
    intro h' p hp hst' hpo hk'
    have hS':=hk' S _ hSi hS
    have hpl:p<h'.objs.size:=Heap.lt_size hpo
    have hSp:S≠p:=(neS p (Nat.le_trans hl hp)).symm
    have up:∀ b o,b≠S->h'.get? b=some o->(h'.update S (Obj.mapSeq (·.push (Value.ref p)))).get? b=some o:=fun b o hb e=>(Heap.get?_update_other _ _ (Ne.symm hb)).trans e
    refine wpAny_bind (wpAny_updateSeq (s:={ g0 with heap:=h',toks:=tk }) hS' rfl (wpAny_pure ⟨plainId_quiet F.plain_extend_loop _,ih (i+1) _ tk _ (acc.push (.ref p)) (as++[p]) (by omega) (by omega) ?_ (up d _ hSd (hk' d _ hdi hD)) (fun b o h1 h2 e=>up b o h1 (hk' b o h2 (hkp b o h1 h2 e))) (Heap.get?_update_self _ hS' rfl) (by rw[Array.toList_push,hacc,List.map_append];rfl) (by rw[List.length_append,hal];rfl) (by rw[Heap.size_update];exact Nat.le_trans (Nat.le_trans hl hp) (Nat.le_of_lt hpl)) ⟨?_,?_,?_⟩⟩) (by rw[hsz];omega))
    . rcases hst' with⟨x,y,hit⟩|⟨p',f,x,y,oa,hit,ha,hpi,hpS⟩
      . exact .inl ⟨x,y,up it _ (Ne.symm hSi) hit⟩
      . exact .inr ⟨p',f,x,y,oa,up it _ (Ne.symm hSi) hit,up p' _ hpS ha,hpi,hpS⟩
    . refine List.pairwise_append.mpr ⟨G.rise,List.pairwise_singleton _ _,fun a ha b hb=>?_⟩;rw[List.mem_singleton.mp hb];exact Nat.lt_of_lt_of_le (G.low a ha).2 hp
    . intro a ha;rw[Heap.size_update]
      rcases List.mem_append.mp ha with ha|ha
      . obtain⟨j,hj⟩:=List.mem_iff_getElem?.mp ha;obtain⟨e,_,e2⟩:=G.holds j a hj;have l:=(G.low a ha).1
        exact⟨l,Heap.lt_size (hk' a _ (neI a l) e2)⟩
      . rw[List.mem_singleton.mp ha];exact⟨Nat.le_trans hl hp,hpl⟩
    . intro j a hj
      rcases Nat.lt_or_ge j as.length with h1|h1
      . rw[List.getElem?_append_left h1]at hj;obtain⟨e,e1,e2⟩:=G.holds j a hj;have l:=(G.low a (List.mem_of_getElem? hj)).1
        exact⟨e,e1,up a _ (neS a l) (hk' a _ (neI a l) e2)⟩
      . rw[List.getElem?_append_right h1]at hj
        have hj0:j - as.length=0:=by
         cases q:j - as.length with
         |zero=>rfl
         |succ m=>rw[q]at hj;simp at hj
        rw[hj0]at hj
        have:p=a:=by simpa using hj
        subst this
        have ej:j=i:=by omega
        exact⟨es[i],by rw[ej];exact hx,up p _ (Ne.symm hSp) hpo⟩
   rcases hst with⟨x,y,hit⟩|⟨p,f,x,y,oa,hit,ha,hpi,hpS⟩
   . refine wpAny_bind (A9 (s:={ g0 with heap:=h,toks:=tk }) (A:=A.in1) hit hD hx fun h' p hp hit' hpo hk'=>?_);exact go h' p hp (.inr ⟨p,false,_,_,_,hit',hpo,Nat.ne_of_gt (Nat.lt_of_lt_of_le (Heap.lt_size hit) hp),Nat.ne_of_gt (Nat.lt_of_lt_of_le (Heap.lt_size hS) hp)⟩) hpo hk'
   . refine wpAny_bind (AU (s:={ g0 with heap:=h,toks:=tk }) (A:=A.in1) hit ha hpi hD hx fun h' q hq hit' hpo hk'=>?_);exact go h' q hq (.inr ⟨p,true,_,_,_,hit',hk' p oa hpi ha,hpi,hpS⟩) hpo hk'
end
section
variable{prog:Program}{w:World}{A:Around}{E:Value->Shared->Prop}{s:Shared}
noncomputable abbrev pJ(d:Addr):Obj:={ cls:=.type "dict_items",data:=.fields #[.ref d] }
theorem vW{v d:Addr}{oc:Value}{dd:Option Addr}{sl:Array (Option Value)}{es:Array DictEntry}{ep:Nat}{Q:Value->Shared->Prop}(hv:s.heap.get? v=some (pJ d))(hd:s.heap.get? d=some ⟨oc,dd,.dict es ep,sl⟩)
  (h:Q (.ref s.heap.objs.size) { s with heap:=s.heap.push { cls:=.type "dict_itemiterator",data:=.fields #[.none,.bool false,.ref d,.int 0 0,.int es.size 0,.int ep 0,.none,.none] } }):wpAny (model prog w) A (pyIter (.ref v)) Q E s:=by
 have hT:s.TypeIs (.ref v) "dict_items":=⟨_,hv,rfl⟩
 refine wpAny_pyIter_slot hT F.slot_dict_items_iter (wpAny_call_entry F.slot_dict_items_iter hT F.entry_dict_items_iter ?_ (F.args_dict_items_iter_1 _));unfold Builtin.«dict_items.__iter__»;obtain⟨hp,g,dr,tk,os⟩:=s
 repeat (any_goals (first|assumption|wp_step))
 have hown:Builtin.Dict_items.ownsTuple "dict_itemiterator" = true:=by decide
 simp only[hown,if_true,Bool.false_eq_true,if_false]
 exact⟨_,rfl,"dict_itemiterator",_,⟨_,Heap.get?_push_size _ rfl,rfl⟩,F.slot_dict_itemiterator_next.lookup,by simpa [rawInt,Builtin.Dict_items.ownedTupleFields]using h⟩
theorem rH{v d:Addr}{oc:Value}{dd:Option Addr}{sl:Array (Option Value)}{es:Array DictEntry}{ep:Nat}{R:List Value->Shared->Prop}(hh:A.handled=none)(hv:s.heap.get? v=some (pJ d))(hd:s.heap.get? d=some ⟨oc,dd,.dict es ep,sl⟩)(hn:es.size<=sizeLine)
  (h:∀ h' tk as,s.heap.objs.size<=h'.objs.size->(∀ b o,s.heap.get? b=some o->h'.get? b=some o)->as.length=es.size->Got (s.heap.objs.size+1) es h' as->R (as.map Value.ref) { s with heap:=h',toks:=tk }):wpAny (model prog w) A (collect (.ref v)) R E s:=by
 have hvl:v<s.heap.objs.size:=Heap.lt_size hv
 have hdl:d<s.heap.objs.size:=Heap.lt_size hd
 unfold collect;refine wpAny_bind (wpAny_runValue (codeAny_builtin F.entry_proto_collect ?_));rw[Around.under_plainId F.plain_proto_collect _];show wpAny _ A.in1 (newList [] >>= fun l=>again (.builtin "list.__iadd__" ⟨[l,.ref v],[]⟩)) _ _ s;refine wpAny_bind (wpAny_newObj_type ?_);refine wpAny_pure ⟨plainId_quiet F.plain_list_iadd _,codeAny_builtin F.entry_list_iadd ?_⟩;rw[Around.under_plainId F.plain_list_iadd _];show wpAny _ A.in1 (Builtin.List.listExtendWith (.ref s.heap.objs.size) (.ref v) (.ref s.heap.objs.size)) _ _ _;unfold Builtin.List.listExtendWith;have hv1:=Heap.get?_push_of_some { cls:=.type "list",data:=.seq ([]:List Value).toArray } hv;have hd1:=Heap.get?_push_of_some { cls:=.type "list",data:=.seq ([]:List Value).toArray } hd;refine wpAny_bind (wpAny_typeOf (T:="dict_items") ⟨_,hv1,rfl⟩ ?_)
 have h1:Builtin.List.listSameRef (.ref s.heap.objs.size) (.ref v)=false:=by simp[Builtin.List.listSameRef];exact Nat.ne_of_gt hvl
 rw[if_neg (by rw[h1];decide)];refine wpAny_bind (vW hv1 hd1 ?_);refine wpAny_bind (wpAny_holding (PySem.W.kdx_hint ⟨_,Heap.get?_push_of_some _ hv1,rfl⟩ ?_));rw[if_pos (by decide)];refine wpAny_bind (wpAny_rule ?_)
 have zS:(s.heap.push { cls:=.type "list",data:=.seq ([]:List Value).toArray }).objs.size=s.heap.objs.size+1:=by rw[Heap.size_push]
 have hS1:=Heap.get?_push_of_some { cls:=.type "dict_itemiterator",data:=.fields #[.none,.bool false,.ref d,.int 0 0,.int es.size 0,.int ep 0,.none,.none] } (Heap.get?_push_size s.heap (o:={ cls:=.type "list",data:=.seq ([]:List Value).toArray }) rfl);refine wpAny_bind ?_;show wpAny _ _ (updateSeq s.heap.objs.size (·.push .none) >>= fun _=>updateSeq s.heap.objs.size (·.pop)) _ _ _;refine wpAny_bind (wpAny_updateSeq hS1 rfl ?_);have hS2:=Heap.get?_update_self (Obj.mapSeq (·.push Value.none)) hS1 rfl;refine wpAny_updateSeq (hz:=by seq_fits) hS2 rfl ?_;have hS3:=Heap.get?_update_self (Obj.mapSeq (·.pop)) hS2 rfl;refine wpAny_pure ⟨plainId_quiet F.plain_extend_loop _,?_⟩
 have up:∀ b o,b≠s.heap.objs.size->((s.heap.push { cls:=.type "list",data:=.seq ([]:List Value).toArray }).push { cls:=.type "dict_itemiterator",data:=.fields #[.none,.bool false,.ref d,.int 0 0,.int es.size 0,.int ep 0,.none,.none] }).get? b=some o->((((s.heap.push { cls:=.type "list",data:=.seq ([]:List Value).toArray }).push { cls:=.type "dict_itemiterator",data:=.fields #[.none,.bool false,.ref d,.int 0 0,.int es.size 0,.int ep 0,.none,.none] }).update s.heap.objs.size (Obj.mapSeq (·.push Value.none))).update s.heap.objs.size (Obj.mapSeq (·.pop))).get? b=some o:=fun b o hb e=>(Heap.get?_update_other _ _ (Ne.symm hb)).trans ((Heap.get?_update_other _ _ (Ne.symm hb)).trans e)
 refine vP (A:=A) (S:=s.heap.objs.size) (it:=(s.heap.push { cls:=.type "list",data:=.seq ([]:List Value).toArray }).objs.size) (d:=d) (ep:=ep) (es:=es) hh (by rw[zS];exact Nat.ne_of_lt (Nat.lt_succ_self _)) (Nat.ne_of_lt hdl) (by rw[zS];exact Nat.ne_of_lt (Nat.lt_succ_of_lt hdl)) hn (.ref s.heap.objs.size) (h₀:=s.heap) (g0:=s) (s.heap.objs.size+2) ⟨Nat.lt_succ_of_lt (Nat.lt_succ_self _),by rw[zS];exact Nat.lt_succ_self _⟩ (fun h' tk acc c as hk hS' hacc hl G=>?_)
  es.size 0 _ _ _ _ [] (by omega) (Nat.zero_le _) (.inl ⟨_,_,up _ _ (by rw[zS];exact Nat.ne_of_gt (Nat.lt_succ_self _)) (Heap.get?_push_size _ rfl)⟩) (up _ _ (Nat.ne_of_lt hdl) (Heap.get?_push_of_some _ hd1)) (fun b o hb _ e=>up b o hb (Heap.get?_push_of_some _ (Heap.get?_push_of_some _ e))) hS3 rfl rfl (by rw[Heap.size_update,Heap.size_update,Heap.size_push,zS];exact Nat.le_refl _) ⟨List.Pairwise.nil,fun a ha=>(nomatch ha),fun j a hj=>by simp at hj⟩
 show wpAny _ A (load s.heap.objs.size >>= _) _ _ _;refine wpAny_bind (wpAny_load hS' ?_);refine wpAny_pure ?_;show R acc.toList _;rw[hacc];exact h h' tk as (Nat.le_of_lt (Heap.lt_size hS')) (fun b o e=>hk b o (Nat.ne_of_lt (Heap.lt_size e)) (by rw[zS];exact Nat.ne_of_lt (Nat.lt_succ_of_lt (Heap.lt_size e))) e) hl ⟨G.rise,fun a ha=>⟨Nat.le_trans (Nat.le_succ _) (G.low a ha).1,(G.low a ha).2⟩,G.holds⟩
theorem pA{v d:Addr}{oc:Value}{dd:Option Addr}{sl:Array (Option Value)}{es:Array DictEntry}{ep:Nat}{Q:Value->Shared->Prop}(hh:A.handled=none)(hv:s.heap.get? v=some (pJ d))(hd:s.heap.get? d=some ⟨oc,dd,.dict es ep,sl⟩)(hn:es.size<=sizeLine)
  (h:∀ h' tk as,s.heap.objs.size<=h'.objs.size->(∀ b o,s.heap.get? b=some o->h'.get? b=some o)->as.length=es.size->Got (s.heap.objs.size+1) es h' as->Q (.ref h'.objs.size) { s with heap:=h'.push { cls:=.type "tuple",data:=.seq (as.map Value.ref).toArray },toks:=tk }):wpAny (model prog w) A (call (.type "tuple") [.ref v]) Q E s:=by
 refine callType_newIn F.called_tuple (by decide) (F.typeCall_tuple_1 _) (F.newCall_tuple_1 _) (fun obj=>F.args_object_init_2 obj _) F.entry_tuple_new (S:=fun A R s=>A.handled=none /\ s.heap.get? v=some (pJ d) /\ s.heap.get? d=some ⟨oc,dd,.dict es ep,sl⟩ /\ ∀ h' tk as,s.heap.objs.size<=h'.objs.size->(∀ b o,s.heap.get? b=some o->h'.get? b=some o)->as.length=es.size->Got (s.heap.objs.size+1) es h' as->R (.ok (.ret (.ref h'.objs.size))) { s with heap:=h'.push { cls:=.type "tuple",data:=.seq (as.map Value.ref).toArray },toks:=tk }) (.of_wp fun A R s z=>?_) ⟨hh,hv,hd,fun h' tk as gz k l G=>⟨⟨_,Heap.get?_push_size _ rfl,rfl⟩,h h' tk as gz k l G⟩⟩;obtain⟨hp,g,d',tk,os⟩:=s;obtain⟨hh,hv,hd,z⟩:=z;have hsub:=sub_tuple_self;have hinit:=init_tuple_lookup;have hmh:=madeHere_tuple
 have hT:Shared.TypeIs ⟨hp,g,d',tk,os⟩ (.ref v) "dict_items":=⟨_,hv,rfl⟩
 wp_walk using wpAny_typeOf hT,rH (s:=⟨hp,g,d',tk,os⟩) (A:=A.in1) hh hv hd hn
 intro h' tk' as gz k l G;show wpAny _ _ (Builtin.Tuple.tupleExact (as.map Value.ref).toArray >>= fun v=>ret v) _ _ _;unfold Builtin.Tuple.tupleExact;refine wpAny_bind (wpAny_newObj_type ?_ (by show(as.map Value.ref).toArray.size<=sizeLine;simpa [l]using hn));exact wpAny_pure ⟨_,rfl,z h' tk' as gz k l G⟩
end
end HT
namespace L2
open PySem PySem.Spec PyProof.Rows
abbrev E3:=List Key×Addr×V
noncomputable def R3(p:E3)(q:List Key×Addr×Value):Prop:=p.1=q.1 /\ p.2.1=q.2.1 /\ RelV p.2.2 q.2.2
noncomputable def rz(xs:List E3)(k:List Key)(b:Addr)(v:V):List E3:=if(xs.any fun p=>decide (p.1=k))=true then xs.map (fun p=>if p.1=k then(p.1,p.2.1,v)else p)else xs++[(k,b,v)]
noncomputable def oK(xs:List E3):List E3->List E3
 |[]=>xs
 |p ::r=>oK (rz xs p.1 p.2.1 p.2.2) r
noncomputable def sL(K:PySem.W.Frag)(H:Hp)(xs:List E3):Prop:=∀ p∈xs,SqT K H p.2.1 (p.1.map kV)
theorem uH(xs:List E3)(k:List Key)(b:Addr)(v:V):(rz xs k b v).length<=xs.length+1:=by
 unfold rz;split
 . rw[List.length_map];omega
 . rw[List.length_append];simp
theorem sm:∀(ps xs:List E3),(oK xs ps).length<=xs.length+ps.length
 |[],xs=>by simp[oK]
 | p ::r,xs=>by
   have:=sm r (rz xs p.1 p.2.1 p.2.2);have:=uH xs p.1 p.2.1 p.2.2;rw[oK,List.length_cons];omega
theorem R3.any{xs:List E3}{ys:List (List Key×Addr×Value)}(r:Paired R3 xs ys)(k:List Key):(xs.any fun p=>decide (p.1=k))=(atKey ys k).isSome:=by
 induction r with
 |nil=>rfl
 | @cons p q ps qs h t ih=>
   rw[List.any_cons,ih,h.1]
   by_cases e:q.1=k
   . simp[atKey,List.find?_cons,e]
   . simp[atKey,List.find?_cons,e]
theorem R3.put{xs:List E3}{ys:List (List Key×Addr×Value)}(r:Paired R3 xs ys)(k:List Key)(b:Addr){v:V}{u:Value}(rv:RelV v u):Paired R3 (rz xs k b v) (storedH ys k b u):=by
 unfold rz storedH;rw[R3.any r k]
 by_cases q:(atKey ys k).isSome=true
 . rw[if_pos q,if_pos q];clear q
   induction r with
   |nil=>exact .nil
   | @cons p q ps qs h t ih=>
     rw[List.map_cons,List.map_cons];refine .cons ?_ ih;unfold putAt
     by_cases e:p.1=k
     . rw[if_pos e,if_pos (h.1.symm.trans e)];exact⟨h.1,h.2.1,rv⟩
     . rw[if_neg e,if_neg (fun z=>e (h.1.trans z))];exact h
 . rw[if_neg q,if_neg q];exact Paired.snoc r ⟨rfl,rfl,rv⟩
theorem R3.Bd:∀{ps:List E3} {qs:List (List Key×Addr×Value)} {xs:List E3} {ys:List (List Key×Addr×Value)},Paired R3 ps qs->Paired R3 xs ys->Paired R3 (oK xs ps) (HT.putAll ys qs)
 |_,_,_,_,.nil,r=>r
 | _,_,_,_,.cons (a:=p) (b:=q) h t,r=>by
   have:=R3.put r p.1 p.2.1 h.2.2;rw[h.1,h.2.1]at this;rw[oK,HT.putAll,h.1,h.2.1];exact R3.Bd t this
section
variable{X:Cx}{pins:List (Addr×Obj)}{σ:St}{H:Hp}{s:Shared}{a d:Addr}
theorem Inv.y0{k:List Key}(I:Inv X pins σ H s)(h:SqT X.K H a (k.map kV)):(tupleKind (fT X.prog X.w)).is s.heap k a:=by
 obtain⟨its,r,⟨o,e,c,n,f⟩,_⟩:=I.tuple h
 exact⟨o,its.toArray,n,e,c,f,by simpa using sx r⟩
theorem Inv.dT{xs:List E3}(I:Inv X pins σ H s)(e:H d=some (.dT xs))(k:sL X.K H xs):xs.length<=sizeLine /\ (d==sysModules)=false /\ ∃ ys,Paired R3 xs ys /\ s.heap.DictOfH (tupleKind (fT X.prog X.w)) d ys:=by
 obtain⟨z,y,ys,r,o,es,ep,h1,h2,h3,h4,h5⟩:=(show fP X.prog X.w H s.heap d (.dT xs) from I.hok d _ e)
 refine⟨z,y,ys,r,o,es,ep,h1,h2,h3,h4,fun q hq=>?_,h5⟩
 have all:∀{l:List E3} {m:List (List Key×Addr×Value)},Paired R3 l m->sL X.K H l->∀ x∈m,(tupleKind (fT X.prog X.w)).is s.heap x.1 x.2.1:=by
  intro l m r
  induction r with
  |nil=>intro _ x hx;cases hx
  | @cons p q ps qs h t ih=>
    intro kk x hx
    rcases List.mem_cons.mp hx with z|z
    . subst z;have:=kk p (List.mem_cons_self);rw[h.1,h.2.1]at this;exact I.y0 this
    . exact ih (fun p hp=>kk p (List.mem_cons_of_mem _ hp)) x z
 exact all r k q hq
theorem sO{P:Program}{w:World}{H:Hp}{h:Heap}{xs:List E3}{ys:List (List Key×Addr×Value)}(z:xs.length<=sizeLine)(y:(d==sysModules)=false)(r:Paired R3 xs ys)(dd:h.DictOfH (tupleKind (fT P w)) d ys):fP P w H h d (.dT xs):=by
 obtain⟨o,es,ep,h1,h2,h3,h4,_,h5⟩:=dd
 exact⟨z,y,ys,r,o,es,ep,h1,h2,h3,h4,h5⟩
noncomputable def PrT(K:PySem.W.Frag)(H:Hp)(v:V)(p:E3):Prop:=∃ q,v=.ref q /\ SqT K H q [.ref p.2.1,p.2.2] /\ SqT K H p.2.1 (p.1.map kV)
theorem GL(I:Inv X pins σ H s):∀{vs:List V} {ps:List E3} {its:List Value},Paired (PrT X.K H) vs ps->Vals vs its->∃ qs,Paired R3 ps qs /\ qs.length=its.length /\ ∀(j:Nat) q u,qs[j]?=some q->its[j]?=some u->HT.xt (fT X.prog X.w) s.heap q u:=by
 intro vs ps its h
 induction h generalizing its with
 |nil=>intro r;cases r;exact⟨[],.nil,rfl,fun j q u e=>by simp at e⟩
 | @cons v p vs ps hp t ih=>
   intro r
   cases r with
   | @cons _ u _ us ru rt=>
     obtain⟨qs,r1,l1,h1⟩:=ih rt;obtain⟨q,rfl,s1,s2⟩:=hp;cases ru;obtain⟨its',rv,pt,_⟩:=I.tuple s1
     cases rv with
     | @cons _ u1 _ _ w1 rv=>
       cases w1
       cases rv with
       | @cons _ u2 _ _ w2 rv=>
         cases rv
         refine⟨(p.1,p.2.1,u2) ::qs,.cons ⟨rfl,rfl,w2⟩ r1,by simp[l1],fun j q' u' e1 e2=>?_⟩
         cases j with
         | zero=>
           simp at e1 e2;subst e1 e2
           exact⟨⟨q,rfl,pt⟩,I.y0 s2⟩
         |succ j=>exact h1 j q' u' (by simpa using e1) (by simpa using e2)
noncomputable def zg(K:PySem.W.Frag)(A:Around):List V->Hp->VK->Prop:=fun xs H Q=>∃ a vs ps,xs=[.ref a] /\ SqT K H a vs /\ Paired (PrT K H) vs ps /\ A.handled=none /\ A.units+2<cLine /\ ∀ d,H d=none->Q (.ref d) (upd H d (.dT (oK [] ps)))
theorem vC:ko X (.type "dict") (zg X.K X.A):=by
 intro pins s σ H xs us Q I r h;obtain⟨a,vs,ps,rfl,ha,hp,hh,hu,q⟩:=h;obtain⟨u,rfl,rx⟩:=vals1 r;cases rx;obtain⟨its,rv,⟨⟨cl,di,da,sl⟩,e1,e2,n,e3⟩,hz⟩:=I.tuple ha;have nd:=I.noD ha _ e1;simp only at e2 e3 nd;subst e2 e3 nd;obtain⟨qs,r1,l1,h1⟩:=GL I hp rv;have hl:=rv.length
 refine HT.xI (kk:=fT X.prog X.w) hu hh e1 l1 (by omega) h1 fun d h' tk hd dd k=>?_
 have hps:ps.length=vs.length:=(Paired.length hp).symm
 have hf:=I.hok.fresh hd
 have hbig:(d==sysModules)=false:=beq_eq_false_iff_ne.mpr (Ne.symm (Nat.ne_of_lt (Nat.lt_of_lt_of_le I.big hd)))
 exact⟨.ref d,_,I.laid (t':=tk) k hd (sO (by have:=sm ps [];simp at this;omega) hbig (R3.Bd r1 .nil) dd),rfl,q d hf⟩
end
section
variable{X:Cx}{o i value:Expr}{pos pos':Pos}{td ty tv:TE}
noncomputable def vG(K:PySem.W.Frag)(td ty tv:TE):TS:=fun D σ H=>tv σ H fun v H1=>td σ H1 fun x H2=>ty σ H2 fun y H3=>∃ d b xs k,x=.ref d /\ y=.ref b /\ H3 d=some (.dT xs) /\ sL K H3 xs /\ SqT K H3 b (k.map kV) /\ xs.length<sizeLine /\ D.nx σ (upd H3 d (.dT (rz xs k b v)))
theorem Ad(hu:X.A.units+1<cLine)(ho:PE X o td)(hi:PE X i ty)(hv:PE X value tv)(hs:swapsWith value (some (.Subscript o i pos')) pos.line X.env=pure false):
  PS X (.Assign [.Subscript o i pos'] value pos) (vG X.K td ty tv):=by
 intro pins s σ H D I h;refine wpAny_Assign_Subscript (thn (hv pins s σ H _ I h) fun r s1 ⟨v,H1,I1,rv,q1⟩=>thn (ho pins s1 σ H1 _ I1 q1) fun u s2 ⟨x,H2,I2,rx,q2⟩=>thn (hi pins s2 σ H2 _ I2 q2) fun iv s3 ⟨y,H3,I3,ry,d,b,xs,k,ex,ey,e,kk,hk,hl,q3⟩=>?_) hs;subst ex ey
 obtain rfl:u=Value.ref d:=rx
 obtain rfl:iv=Value.ref b:=ry
 obtain⟨z,y,ys,r3,dd⟩:=I3.dT e kk
 refine wpAny_setItem_heap (hsz:=by rw[<- Paired.length r3];exact z) (tupleKind_room_in1 hu) (I3.y0 hk) dd fun h' dd' hs'=>?_
 have he:∃ q,h'.get? d=some q:=let ⟨q,_,_,hq,_⟩:=dd';⟨q,hq⟩
 exact⟨σ,_,xn I3 (by rw[e];exact True.intro) hs' he (sO (by have:=uH xs k b v;omega) y (R3.put r3 k b rv) dd'),q3⟩
end
section
variable{X:Cx}{pins:List (Addr×Obj)}{σ:St}{H H':Hp}{s:Shared}{h':Heap}
theorem Inv.EL{t':Nat}(I:Inv X pins σ H s)(k:∀ b u,s.heap.get? b=some u->h'.get? b=some u)(hH:∀ b,H' b=H b \/ (s.heap.objs.size<=b /\ ∃ o,H' b=some o /\ fP X.prog X.w H' h' b o)):Inv X pins σ H' { s with heap:=h',toks:=t' }:=by
 have old:∀ b,b<s.heap.objs.size->H' b=H b:=fun b hb=>by
  rcases hH b with z|⟨z,_⟩
  . exact z
  . exact absurd hb (Nat.not_lt.mpr z)
 have keep:∀ b o,H b=some o->H' b=some o:=fun b o e=>by rw[old b (I.hok.lt e)];exact e
 refine I.un ⟨fun b u q _ _ _=>k b u q,fun b u q _ _ _=>⟨u.slots,k b u q⟩,fun b u q n _=>by rw[old b (Heap.lt_size q)];exact n,fun b u q _=>⟨u,k b u q⟩,fun b xs q=>keep b _ q,fun b u xs q=>keep b _ q,fun b ps q=>⟨#[],by rw[keep b _ q];simp⟩⟩ fun b o e=>?_
 rcases hH b with z|⟨z,o',e',ok⟩
 . rw[z]at e
   exact(I.hok b o e).m3 (fun c v _ q=>k c v q) (fun c q=>keep c _ q) fun c xs q=>keep c _ q
 . rw[e']at e;cases e;exact ok
noncomputable def Bi:List E3->Hp->(List Addr->Hp->Prop)->Prop
 |[],H,k=>k [] H
 |x ::xs,H,k=>∀ a,H a=none->Bi xs (upd H a (.tup [.ref x.2.1,x.2.2])) fun as H1=>k (a ::as) H1
noncomputable def lr:List E3->List Addr->Hp->Hp
 |x ::xs,a ::as,H=>lr xs as (upd H a (.tup [.ref x.2.1,x.2.2]))
 |_,_,H=>H
theorem mi:∀(xs:List E3) (as:List Addr) (H:Hp) (b:Addr),b∉as->lr xs as H b=H b
 |[],_,_,_,_=>by simp[lr]
 |_ ::_,[],_,_,_=>by simp[lr]
 | x ::xs,a ::as,H,b,hb=>by
   rw[lr,mi xs as _ b (fun z=>hb (List.mem_cons_of_mem _ z)),bY (fun z=>hb (by rw[z];exact List.mem_cons_self))]
theorem wM:∀(xs:List E3) (as:List Addr) (H:Hp) (k:List Addr->Hp->Prop),as.length=xs.length->as.Nodup->(∀ a∈as,H a=none)->Bi xs H k->k as (lr xs as H)
 |[],[],H,k,_,_,_,h=>h
 |[],_ ::_,_,_,e,_,_,_=>by cases e
 |_ ::_,[],_,_,e,_,_,_=>by cases e
 | x ::xs,a ::as,H,k,e,n,f,h=>by
   rw[List.nodup_cons]at n
   exact wM xs as _ (fun bs H1=>k (a ::bs) H1) (by simpa using e) n.2 (fun b hb=>by
    rw[bY (fun z=>n.1 (by rw[<- z];exact hb))]
    exact f b (List.mem_cons_of_mem _ hb)) (h a (f a List.mem_cons_self))
theorem rO:∀(xs:List E3) (as:List Addr) (H:Hp),as.Nodup->as.length=xs.length->∀(j:Nat) (a:Addr),as[j]?=some a->∃ x,xs[j]?=some x /\ lr xs as H a=some (.tup [.ref x.2.1,x.2.2])
 |_,[],_,_,_,j,a,h=>by simp at h
 |[],_ ::_,_,_,e,_,_,_=>by cases e
 | x ::xs,a ::as,H,n,e,0,b,h=>by
   rw[List.nodup_cons]at n
   have:a=b:=by simpa using h
   subst this
   exact⟨x,rfl,by rw[lr,mi xs as _ a n.1,bE]⟩
 | x ::xs,a ::as,H,n,e,j+1,b,h=>by
   rw[List.nodup_cons]at n;obtain⟨y,e1,e2⟩:=rO xs as (upd H a (.tup [.ref x.2.1,x.2.2])) n.2 (by simpa using e) j b (by simpa using h)
   exact⟨y,by simpa using e1,by rw[lr];exact e2⟩
theorem Paired.at3{α β:Type}{F:α->β->Prop}:∀{xs:List α} {ys:List β} {j:Nat} {x:α} {y:β},Paired F xs ys->xs[j]?=some x->ys[j]?=some y->F x y
 |_,_,0,_,_,.cons h _,e1,e2=>by simp at e1 e2;subst e1 e2;exact h
 |_,_,j+1,_,_,.cons _ t,e1,e2=>Paired.at3 t (by simpa using e1) (by simpa using e2)
 |_,_,_,_,_,.nil,e1,_=>by simp at e1
noncomputable def vwO(v d:Addr):HO:=.ext fun h=>h.get? v=some (HT.pJ d)
theorem Fe{P:Program}{w:World}{H:Hp}{h:Heap}{v d:Addr}(e:h.get? v=some (HT.pJ d)):fP P w H h v (vwO v d):=⟨e,⟨_,e⟩,fun _ _ p k=>k _ p⟩
noncomputable def xm:V->List V->Hp->VK->Prop:=fun x vs H Q=>∃ d xs,x=.ref d /\ vs=[] /\ H d=some (.dT xs) /\ ∀ v,H v=none->Q (.ref v) (upd H v (vwO v d))
theorem uN{prog:Program}{w:World}(d:Addr)(hd:(d==sysModules)=false):
  MeetsIn prog w (Builtin.«dict.items» ⟨[.ref d],[]⟩) (fun _ R s=>s.TypeIs (.ref d) "dict" /\ R (.ok (.ret (.ref s.heap.objs.size))) { s with heap:=s.heap.push (HT.pJ d) }):=
 .of_wp fun A R s ⟨ht,h⟩=>by
  refine wpAny_bind ?_;unfold Builtin.Dict.noArgs;refine wpAny_bind (wpAny_notOrdered_dict ht ?_);show wpAny _ _ (pure d) _ _ s;refine wpAny_pure ?_;show wpAny _ _ (Builtin.Dict.showsAll d >>= _) _ _ s;unfold Builtin.Dict.showsAll;rw[if_neg (by rw[hd];exact Bool.false_ne_true)];refine wpAny_bind (wpAny_pure ?_);exact wpAny_bind (wpAny_newObj_type (wpAny_pure ⟨_,rfl,h⟩))
theorem yN:MtM X "dict.items" xm:=by
 intro pins s σ H x vs v us Q I rx rv h;obtain⟨d,xs,rfl,rfl,e,q⟩:=h;cases rx;have hus:=rv.zero;subst hus;obtain⟨z,y,ys,r,o,es,ep,h1,h2,h3⟩:=(show fP X.prog X.w H s.heap d (.dT xs) from I.hok d _ e);refine call_meetsIn F.slot_dict_items ⟨o,h1,h2.1⟩ F.entry_dict_items (F.args_dict_items_1 _) (uN d y) ⟨⟨o,h1,h2.1⟩,?_⟩
 exact⟨.ref s.heap.objs.size,_,I.laid (t':=s.toks) (fun b u z=>Heap.get?_push_of_some _ z) (Nat.le_refl _) (Fe (Heap.get?_push_size _ rfl)),rfl,q _ (I.hok.fresh (Nat.le_refl _))⟩
noncomputable def B9(A:Around):List V->Hp->VK->Prop:=fun ys H Q=>∃ v d xs,ys=[.ref v] /\ H v=some (vwO v d) /\ H d=some (.dT xs) /\ A.handled=none /\ Bi xs H fun as H1=>∀ r,H1 r=none->Q (.ref r) (upd H1 r (.tup (as.map .ref)))
theorem ui:ko X (.type "tuple") (B9 X.A):=by
 intro pins s σ H ys us Q I r h;obtain⟨v,d,xs,rfl,ev,ed,hh,q⟩:=h;obtain⟨u,rfl,rx⟩:=vals1 r;cases rx;obtain⟨z,y,raw,rr,⟨oc,dd,da,sl⟩,es,ep,h1,h2,h3,h4,h5⟩:=(show fP X.prog X.w H s.heap d (.dT xs) from I.hok d _ ed);simp only at h3;subst h3
 have hv:s.heap.get? v=some (HT.pJ d):=(show fP X.prog X.w H s.heap v (vwO v d) from I.hok v _ ev).1
 have hes:es.size=xs.length:=by rw[<- Array.length_toList,h4,List.length_map,Paired.length rr]
 refine HT.pA hh hv h1 (by rw[hes];exact z) fun h' tk as gz k l G=>?_
 have nd:as.Nodup:=G.rise.imp fun z=>Nat.ne_of_lt z
 have fresh:∀ a∈as,H a=none:=fun a ha=>I.hok.fresh (Nat.le_trans (Nat.le_succ _) (G.low a ha).1)
 have q1:=wM xs as H _ (by rw[l,hes]) nd fresh q
 have hr:lr xs as H h'.objs.size=none:=by
  rw[mi xs as H _ (fun z=>Nat.lt_irrefl _ (G.low _ z).2)];exact I.hok.fresh gz
 refine⟨.ref h'.objs.size,upd (lr xs as H) h'.objs.size (.tup (as.map .ref)),?_,rfl,q1 _ hr⟩
 refine I.EL (fun b u z=>Heap.get?_push_of_some _ (k b u z)) fun b=>?_
 by_cases hb:b=h'.objs.size
 . subst hb;refine .inr ⟨gz,_,bE,⟨by rw[List.length_map,l,hes];exact z,.new _ _⟩,as.map Value.ref,?_,IsTup.new _ _⟩;clear q1 fresh nd G l q hr
   induction as with
   |nil=>exact .nil
   |cons a as ih=>exact .cons rfl ih
 . rw[bY hb]
   by_cases hm:b∈as
   . obtain⟨j,hj⟩:=List.mem_iff_getElem?.mp hm;obtain⟨x,e1,e2⟩:=rO xs as H nd (by rw[l,hes]) j b hj;obtain⟨e,e3,e4⟩:=G.holds j b hj;refine .inr ⟨Nat.le_trans (Nat.le_succ _) (G.low b hm).1,_,e2,⟨by show 2<=sizeLine;decide,.of (Heap.get?_push_of_some _ e4) rfl⟩,[e.key,e.val],?_,⟨_,Heap.get?_push_of_some _ e4,rfl,_,rfl⟩⟩
     have e5:es.toList[j]?=some e:=by rw[Array.getElem?_toList];exact e3
     rw[h4,List.getElem?_map]at e5;obtain⟨y,e6,e7⟩:=Option.map_eq_some_iff.mp e5;have r3:=Paired.at3 rr e1 e6;subst e7;exact .cons (by rw[r3.2.1];rfl) (.cons r3.2.2 .nil)
   . exact .inl (mi xs as H b hm)
end
end L2
namespace L2.E
open PySem PySem.Spec PyProof.Rows L2
theorem zj{X:Cx}{o i value:Expr}{td ty tv:TE}{pos pos':Pos}(hu:X.A.units+1<cLine)(ho:QE X o td)(hi:QE X i ty)(hv:QE X value tv)(hs:swapsWith value (some (.Subscript o i pos')) pos.line X.env=pure false:=by rfl):QS X (.Assign [.Subscript o i pos'] value pos) (vG X.K td ty tv):=⟨Ad hu ho.out hi.out hv.out hs⟩
theorem boot_dict:bootBuiltins "dict" = some (.type "dict"):=by decide +kernel
theorem Ej{A:Around}{k:Nat}(hr:ip k A):A.units+2<cLine:=by have:=hr.un;omega
end L2.E
namespace L2.P
open PySem PySem.Spec PyProof.Rows L2 L2.E
section
variable{K:PySem.W.Frag}{cls:String->Option Addr}{W:XW}{Av G S₀ S S' H H' B B':Hp}{ρ:ah}{σ:St}{Q:VK}
theorem sA:∀{ns:List Int} {vs:List V},bA K S (ns.map .int) vs->vs=(ns.map Sum.inl).map kV
 |[],vs,h=>by unfold bA at h;rw[h];rfl
 | n ::ns,vs,h=>by
   obtain⟨v,r,rfl,h1,h2⟩:=h.cons_inv;unfold Rep at h1;rw[h1,sA h2];rfl
theorem wt{x:PV}{v:V}{ns:List Int}(e:p6 x=some ns)(h:Rep K S x v):∃ b,v=.ref b /\ SqT K S b ((ns.map Sum.inl).map kV) /\ Rep K S (.tup (ns.map .int)) (.ref b):=by
 cases x with
 | tup xs=>
   have e1:=xZ (show pj xs=some ns from e);subst e1;have h0:=h;unfold Rep at h;obtain⟨b,vs,rfl,h1,h2⟩:=h;rw[sA h2]at h1
   exact⟨b,rfl,h1,h0⟩
 |_=>cases e
theorem pairs_at(sh:aD S H):∀{ps:List PV} {vs:List V} {d:DT},ni ps=some d->bA K S ps vs->∃ es:List E3,Paired (PrT K H) vs es /\ cF K S d es
 |[],vs,d,e,h=>by cases e;unfold bA at h;subst h;exact⟨[],.nil,.nil⟩
 | .tup [k,y] ::ps,vs,d,e,h=>by
   unfold ni at e;obtain⟨ns,e1,e2⟩:=Option.bind_eq_some_iff.mp e;obtain⟨d',e3,e4⟩:=Option.map_eq_some_iff.mp e2;subst e4;obtain⟨v,r,rfl,h1,h2⟩:=h.cons_inv;obtain⟨es,h3,h4⟩:=pairs_at sh e3 h2;unfold Rep at h1;obtain⟨q,us,rfl,h5,h6⟩:=h1;obtain⟨vk,r1,rfl,hk,h6⟩:=h6.cons_inv;obtain⟨vy,r2,rfl,hy,h6⟩:=h6.cons_inv
   have:r2=[]:=by unfold bA at h6;exact h6
   subst this;obtain⟨b,rfl,hb,hkb⟩:=wt e1 hk
   exact⟨(ns.map Sum.inl,b,vy) ::es,.cons ⟨q,rfl,aD.tup sh h5,aD.tup sh hb⟩ h3,.cons ⟨rfl,hkb,hy⟩ h4⟩
 |.tup [] ::_,_,_,e,_=>by cases e
 |.tup [_] ::_,_,_,e,_=>by cases e
 |.tup (_ ::_ ::_ ::_) ::_,_,_,e,_=>by cases e
 |.non ::_,_,_,e,_=>by cases e
 |.bl _ ::_,_,_,e,_=>by cases e
 |.str _ ::_,_,_,e,_=>by cases e
 |.int _ ::_,_,_,e,_=>by cases e
 |.lst _ ::_,_,_,e,_=>by cases e
theorem qf:∀{a b:List Int},a.map (Sum.inl:Int->Key)=b.map Sum.inl↔a=b:=by
 intro a b
 refine⟨fun e=>?_,fun e=>by rw[e]⟩
 have:=congrArg (List.map fun k:Key=>match k with|.inl i=>i|.inr _=>0) e
 simpa [List.map_map,Function.comp_def]using this
theorem cF.any{d:DT}{xs:List E3}(r:cF K S d xs)(k:List Int):(d.any fun p=>decide (p.1=k))=xs.any fun p=>decide (p.1=k.map Sum.inl):=by
 induction r with
 |nil=>rfl
 | cons h t ih=>
   rw[List.any_cons,List.any_cons,ih,h.1]
   congr 1
   exact decide_eq_decide.mpr qf.symm
theorem cF.put{d:DT}{xs:List E3}(r:cF K S d xs)(k:List Int){b:Addr}{y:PV}{v:V}(hk:Rep K S (.tup (k.map .int)) (.ref b))(hy:Rep K S y v):cF K S (kx d k y) (rz xs (k.map Sum.inl) b v):=by
 unfold kx rz;rw[r.any k];split
 . rename_i q;clear q
   induction r with
   |nil=>exact .nil
   | @cons p q ps qs h t ih=>
     rw[List.map_cons,List.map_cons];refine .cons ?_ ih
     by_cases e:p.1=k
     . rw[if_pos e,if_pos (by rw[h.1,e])];exact⟨h.1,h.2.1,hy⟩
     . rw[if_neg e,if_neg (fun z=>e (qf.mp (h.1.symm.trans z)))];exact h
 . exact Paired.snoc r ⟨rfl,hk,hy⟩
theorem cF.Bd{ps:DT}{es:List E3}(h:cF K S ps es):∀{d:DT} {xs:List E3},cF K S d xs->cF K S (ps.foldl (fun d p=>kx d p.1 p.2) d) (oK xs es):=by
 induction h with
 |nil=>intro d xs r;exact r
 | @cons p q ps qs h t ih=>
   intro d xs r;have:=cF.put r p.1 h.2.1 h.2.2;rw[<- h.1]at this;exact ih this
theorem cF.y3{d:DT}{xs:List E3}(sh:aD S H)(r:cF K S d xs):sL K H xs:=by
 induction r with
 |nil=>intro p hp;cases hp
 | cons h t ih=>
   intro p hp
   rcases List.mem_cons.mp hp with z|z
   . subst z;obtain⟨b,e,h1,_⟩:=wt (x:=.tup _) (show p6 (.tup (List.map PV.int _))=some _ from qp _) h.2.1;cases e;rw[h.1];exact aD.tup sh h1
   . exact ih p z
theorem y6:∀{d:DT} {xs:List E3} {S H:Hp} {k:List Addr->Hp->Prop},aD S H->cF K S d xs->(∀ as S' H',aZ S H S' H'->bA K S' (az d) (as.map .ref)->k as H')->Bi xs H k
 |_,_,S,H,k,sh,.nil,h=>h [] S H (aZ.refl sh) (by show bA K S [] [];unfold bA;rfl)
 | _,_,S,H,k,sh,@Paired.cons _ _ _ p q d _ hp t,h=>by
   intro a ha;have g:=aZ.both (o:=.tup [.ref q.2.1,q.2.2]) sh ha
   refine y6 g.sh (cF.mono g.s t) fun as S' H' w r=>h (a ::as) S' H' (g.trans w) ?_
   show bA K S' (.tup [.tup (p.1.map .int),p.2] ::az d) (.ref a ::as.map .ref);refine .cons (Rep.mono w.s ?_) r;unfold Rep
   exact⟨a,_,rfl,SqT.new bE,.cons (Rep.mono g.s hp.2.1) (.cons (Rep.mono g.s hp.2.2) .nil)⟩
end
end L2.P
namespace HT
open PySem PyProof.Rows
section
open PySem.SeqAt
open PySem.AutoSeq1 (wpAny_loadPart')
variable{prog:Program}{w:World}{A:Around}{E:Value->Shared->Prop}{s:Shared}
theorem ox{t sl:Addr}{items:Array Value}{vl vu:Value}{lo hi:Option Int}{Q:Value->Shared->Prop}(ht:IsTup s.heap t items)(hs:s.heap.IsSliceOf sl vl vu .none)(pl:IsPart vl lo)(pu:IsPart vu hi)
  (hw:sIx items.size 0 lo=0 /\ sIx items.size items.size hi=items.size) (h:Q (.ref t) s):wpAny (model prog w) A (getItem (.ref t) (.ref sl)) Q E s:=by
 obtain⟨os,hos,hcs,hds⟩:=id hs
 have hTs:s.TypeIs (.ref sl) "slice":=⟨os,hos,hcs⟩
 unfold getItem
 try with_reducible refine wpAny_holding ?_
 first|refine wpAny_bind (wpAny_pure ?_)|skip
 refine wpAny_bind (wpAny_sequenceKey ht.typeIs (by decide) ?_);refine wpAny_bind (wpAny_callSpecial?_slot (name:=Str.ofString "__getitem__") ht.typeIs PyProof.Rows.slot_tuple_getitem (wpAny_call_entry PyProof.Rows.slot_tuple_getitem ht.typeIs entry_tuple_getitem ?_ (args_tuple_getitem _ _)));show wpAny _ _ (Builtin.Tuple.tupleItemsOf (.ref t) >>= _) _ _ s;refine wpAny_bind (tupleItemsOf_ ht ?_);refine wpAny_bind (wpAny_typeOf hTs ?_);rw[if_pos (by decide)];refine wpAny_bind (jQ hs pl pu ?_)
 have hyes:(((sIx items.size 0 lo:Nat):Int)==0&&(1:Int)==1&&(sIx items.size items.size hi - sIx items.size 0 lo)==items.size)=true:=by rw[hw.1,hw.2];simp
 show wpAny _ _ (if(((sIx items.size 0 lo:Nat):Int)==0&&(1:Int)==1&&(sIx items.size items.size hi - sIx items.size 0 lo)==items.size)=true then _ else _) _ _ s;rw[if_pos hyes];obtain⟨hp,g,d,tk,os'⟩:=s;have hT:=ht.typeIs (s:=⟨hp,g,d,tk,os'⟩);obtain⟨o,ho,hc,n,hd⟩:=ht
 repeat (any_goals (first|assumption|wp_step))
 exact⟨_,rfl,wpAny_pure h⟩
end
end HT
namespace PySem
end PySem
namespace L2
open PySem PySem.Spec PyProof.Rows
section
variable{X:Cx}
noncomputable def Ck(K:PySem.W.Frag):V->Option Int->Option Int->Hp->VK->Prop:=fun x lo hi H Q=>∃ a xs,x=.ref a /\ SqT K H a xs /\
 (HT.sIx xs.length 0 lo=0 /\ HT.sIx xs.length xs.length hi=xs.length->Q (.ref a) H) /\ (¬ (HT.sIx xs.length 0 lo=0 /\ HT.sIx xs.length xs.length hi=xs.length)->∀ p,H p=none->Q (.ref p) (upd H p (.tup (p8 xs lo hi))))
theorem dv:SlR X (Ck X.K):=by
 intro pins s σ H x v vl vu lo hi sl Q I rx hs pl pu h;obtain⟨a,xs,rfl,hx,q1,q2⟩:=h
 by_cases hw:HT.sIx xs.length 0 lo=0 /\ HT.sIx xs.length xs.length hi=xs.length
 . cases rx;obtain⟨its,r,ht,hz⟩:=I.tuple hx
   have hlen:its.toArray.size=xs.length:=by rw[List.size_toArray];exact r.length.symm
   exact⟨"tuple",_,PyProof.Rows.slot_tuple_getitem.lookup,ht.typeIs,HT.ox ht hs pl pu (by rw[hlen];exact hw) ⟨.ref a,H,I,rfl,q1 hw⟩⟩
 . exact Dh pins s σ H _ v vl vu lo hi sl Q I rx hs pl pu ⟨a,xs,rfl,hx,hw,q2 hw⟩
end
end L2
namespace L2.P
open PySem PySem.Spec PyProof.Rows L2 L2.E
section
variable{K:PySem.W.Frag}{cls:String->Option Addr}{W:XW}{Av G S₀ S S' H H' B B':Hp}{ρ:ah}{σ:St}{Q:VK}
theorem dj{te:TE}{tl th:TO}{ma ml mh:ah->OE}(ha:JE K cls W te ma)(hl:JO K cls W tl ml)(hh:JO K cls W th mh):JE K cls W (tSl (Ck K) te tl th) (cY ma ml mh):=by
 intro Av G S₀ ρ σ S H Q I p
 refine ha.go I p fun a v S1 H1 I1 w1 r1 p1=>hl.go I1 p1 fun l u S2 H2 I2 w2 r2 p2=>hh.go I2 p2 fun h z S3 H3 I3 w3 r3 p3=>?_
 rw[part_of (r2.rd I2.sh),part_of (r3.rd I3.sh)];have ra:=((r1.rd I1.sh).mono w2.s w2.g).mono w3.s w3.g
 cases e:a.pv with
 | tup xs=>
   rw[e]at p3 ra;obtain⟨q,vs,rfl,hq,hr⟩:=fM ra
   refine⟨q,vs,rfl,aD.tup I3.sh hq,fun hw=>?_,fun hw b hb=>?_⟩
   . refine p3 _ S3 H3 (aZ.refl I3.sh) ?_;show Rep K _ _ _;unfold Rep;have:=hr.cut (lI l.pv) (lI h.pv)
     have ec:p8 vs (lI l.pv) (lI h.pv)=vs:=by unfold p8;rw[hw.1,hw.2];simp
     rw[ec]at this
     exact⟨q,vs,rfl,hq,this⟩
   . have w4:=aZ.both (o:=.tup (p8 vs (lI l.pv) (lI h.pv))) I3.sh hb;refine p3 _ _ _ w4 ?_;show Rep K _ _ _;unfold Rep
     exact⟨b,_,rfl,SqT.new bE,(hr.cut _ _).mono w4.s⟩
 |_=>rw[e]at p3;exact p3.elim
end
end L2.P
namespace HT
open PySem PyProof.Rows
section
variable{prog:Program}{w:World}{κ:Type}[DecidableEq κ]{kk:KeyKind prog w κ}{A:Around}{E:Value->Shared->Prop}{s:Shared}
theorem zu{d b:Addr}{k:List κ}{xs:List (List κ×Addr×Value)}{Q:Value->Shared->Prop}(hu:A.units+1<cLine)(hm:(d==sysModules)=false)(hk:(tupleKind kk).is s.heap k b)(hd:s.heap.DictOfH (tupleKind kk) d xs)(h:∀ tk,Q (((atKey xs k).map (·.2)).getD .none) { s with toks:=tk }):
  wpAny (model prog w) A (call (.builtin "dict.get") [.ref d,.ref b]) Q E s:=by
 refine wpAny_call_entry F.slot_dict_get hd.typeIs F.entry_dict_get ?_ (F.args_dict_get_2 _ _);unfold Builtin.«dict.get» Builtin.Dict.keyAndDefault;have hT:=hd.typeIs;obtain⟨hp,g,dr,tk,os⟩:=s;refine wpAny_bind (wpAny_bind (wpAny_notOrdered_dict hT ?_))
 repeat (any_goals (first|assumption|((with_reducible show wpAny _ _ (dictGet _ _) _ _ _);refine wpAny_dictGet_heap (knd:=tupleKind kk) (tupleKind_room_in1 hu) hk hd ?_)|wp_step))
 cases e:(atKey xs k).map (·.2)with
 | some v=>
   have h1:=h (tk+(tupleKind kk).draws k);rw[e]at h1;exact wpAny_pure ⟨_,rfl,h1⟩
 | none=>
   have h1:=h (tk+(tupleKind kk).draws k);rw[e]at h1;show wpAny _ _ (Builtin.Dict.missed d (.ref b) >>= _) _ _ _;unfold Builtin.Dict.missed;refine wpAny_bind ?_;rw[if_neg (by rw[hm];exact Bool.false_ne_true)];exact wpAny_pure (wpAny_pure ⟨_,rfl,h1⟩)
noncomputable def nY(xs:List (List κ×Addr×Value))(k:List κ):List (List κ×Addr×Value):=xs.filter fun x=>decide (x.1≠k)
theorem vc{xs:List (List κ×Addr×Value)}{k:List κ}(h:k∉xs.map (·.1)):nY xs k=xs:=by
 unfold nY;rw[List.filter_eq_self];intro x hx;simp only[ne_eq,decide_eq_true_eq]
 exact fun z=>h (by rw[<- z];exact List.mem_map_of_mem hx)
theorem i7:∀{xs:List (List κ×Addr×Value)} {k:List κ} {j:Nat} {p:Addr×Value},(xs.map (·.1)).Nodup->xs[j]?=some (k,p)->nY xs k=xs.eraseIdx j
 |[],_,_,_,_,h=>by simp at h
 | x ::xs,k,0,p,n,h=>by
   have e:x=(k,p):=by simpa using h
   subst e;rw[List.map_cons,List.nodup_cons]at n;have:=vc n.1
   unfold nY at this ⊢
   rw[List.filter_cons_of_neg (by simp),this];rfl
 | x ::xs,k,j+1,p,n,h=>by
   rw[List.map_cons,List.nodup_cons]at n
   have hne:x.1≠k:=fun z=>n.1 (by rw[z];exact List.mem_map.mpr ⟨(k,p),List.mem_of_getElem? (by simpa using h),rfl⟩)
   have:=i7 n.2 (show xs[j]?=some (k,p) by simpa using h)
   unfold nY at this ⊢
   rw[List.filter_cons_of_pos (by simp[hne]),this];rfl
theorem r9{α β:Type}(f:α->β):∀(xs:List α) (j:Nat),(xs.eraseIdx j).map f=(xs.map f).eraseIdx j
 |[],_=>rfl
 |_ ::_,0=>rfl
 |x ::xs,j+1=>by simp[r9 f xs j]
theorem xE{d b:Addr}{k:List κ}{xs:List (List κ×Addr×Value)}{Q:Option DictEntry->Shared->Prop}(hu:A.units<cLine)(hk:(tupleKind kk).is s.heap k b)(hd:s.heap.DictOfH (tupleKind kk) d xs)(hz:xs.length<=sizeLine)
  (h0:∀ tk,k∉xs.map (·.1)->Q none { s with toks:=tk }) (h1:∀ e h' tk,(∃ p,(k,p)∈xs /\ e.val=p.2)->h'.DictOfH (tupleKind kk) d (nY xs k)->Heap.SameBut d s.heap h'->Q (some e) { s with heap:=h',toks:=tk }):
  wpAny (model prog w) A (Builtin.Dict.takeOut d (.ref b)) Q E s:=by
 obtain⟨o,es,ep,ho,hc,hda,he,his,hn⟩:=hd
 have hes:es.size=xs.length:=size_of_entries he
 unfold Builtin.Dict.takeOut
 try with_reducible refine wpAny_holding ?_
 refine wpAny_bind ((tupleKind kk).pyHash (A:=A) hu hk (wpAny_bind (wpAny_dictFind_heap (s:={ s with toks:=s.toks+(tupleKind kk).draws k }) (knd:=tupleKind kk) hu hk ho hda he his hn (fun no=>?_) fun j p hj=>?_)))
 . exact wpAny_pure (h0 _ (not_mem_keys_of_get no))
 . refine wpAny_bind (wpAny_dictEntries (s:={ s with toks:=s.toks+(tupleKind kk).draws k }) ho hda ?_)
   have ej:es[j]?=some (entryOfKey (tupleKind kk) (k,p)):=by rw[entry_at he j,hj];rfl
   rw[ej]
   have hjl:j<es.size:=by
    rcases Nat.lt_or_ge j es.size with z|z
    . exact z
    . rw[Array.getElem?_eq_none z]at ej;cases ej
   refine wpAny_bind (wpAny_updateDictKeys (hz:=by rw[hes];exact hz) (hf:=by rw[Array.eraseIdxIfInBounds];split<;>simp<;>omega) (s:={ s with toks:=s.toks+(tupleKind kk).draws k }) ho hda (wpAny_pure (h1 _ _ _ ⟨p,List.mem_of_getElem? hj,rfl⟩ ⟨_,_,ep+1,Heap.get?_update_self _ ho (Obj.isFreed_of_dict (Obj.data_mapDictKeys hda _)),hc.mapDictKeys _,Obj.data_mapDictKeys hda _,?_,?_,?_⟩ (Heap.SameBut.update ..))))
   . rw[i7 hn hj,r9,<- he];obtain⟨l⟩:=es;rw[List.eraseIdxIfInBounds_toArray]
   . intro x hx
     exact(tupleKind kk).keeps (his x (List.mem_filter.mp hx).1) ho hda (Heap.SameBut.update ..)
   . rw[i7 hn hj];exact hn.sublist ((List.eraseIdx_sublist xs j).map _)
theorem zB{d b:Addr}{k:List κ}{xs:List (List κ×Addr×Value)}{Q:Value->Shared->Prop}(hu:A.units+1<cLine)(hm:(d==sysModules)=false)(hk:(tupleKind kk).is s.heap k b)(hd:s.heap.DictOfH (tupleKind kk) d xs)(hz:xs.length<=sizeLine)
  (h:∀ v h' tk,(v=.none \/ ∃ p,(k,p)∈xs /\ v=p.2)->h'.DictOfH (tupleKind kk) d (nY xs k)->Heap.SameBut d s.heap h'->Q v { s with heap:=h',toks:=tk }):
  wpAny (model prog w) A (call (.builtin "dict.pop") [.ref d,.ref b,.none]) Q E s:=by
 refine wpAny_call_entry F.slot_dict_pop hd.typeIs F.entry_dict_pop ?_ (F.args_dict_pop_3 _ _ _);unfold Builtin.«dict.pop» Builtin.Dict.keyAndDefault;have hT:=hd.typeIs;obtain⟨⟨oc,dd,da,sl⟩,es,ep,h1,h2,h3,h4,h5,h6⟩:=id hd;simp only at h3;subst h3;obtain⟨hp,g,dr,tk,os⟩:=s
 have m3:∀ tk',k∉xs.map (·.1)->wpAny (model prog w) A.in1 (Builtin.Dict.missedRemoval d (.ref b) >>= fun _=>(do rule "dict.pop.default";ret Value.none)) (fun fin s'=>∃ v,fin=Fin.done (Flow.ret v) /\ Q v s') E ⟨hp,g,dr,tk',os⟩:=fun tk' hn=>by
  unfold Builtin.Dict.missedRemoval;refine wpAny_bind ?_;rw[if_neg (by rw[hm];exact Bool.false_ne_true)];refine wpAny_pure (wpAny_bind (wpAny_rule (wpAny_pure ⟨_,rfl,h _ hp tk' (.inl rfl) ?_ (Heap.SameBut.refl _ _)⟩)));rw[vc hn];exact hd
 refine wpAny_bind (wpAny_bind (wpAny_notOrdered_dict hT ?_))
 repeat (any_goals (first|assumption|((with_reducible show wpAny _ _ (Builtin.Dict.takeOut _ _) _ _ _);fail_if_success skip)|wp_step))
 by_cases hem:es.isEmpty=true
 . rw[if_pos hem]
   have hx:xs=[]:=by
    have:=size_of_entries h4;rw[Array.isEmpty_iff_size_eq_zero.mp hem]at this;exact List.eq_nil_of_length_eq_zero this.symm
   refine wpAny_bind (wpAny_rule ?_);refine wpAny_bind (wpAny_pure ?_);exact m3 tk (by rw[hx];simp)
 . rw[if_neg hem];refine wpAny_bind (xE (A:=A.in1) (kk:=kk) hu hk hd hz (fun tk' hn=>m3 tk' hn) fun e h' tk' hp' hd' hs'=>?_);exact wpAny_bind (wpAny_letGo (wpAny_pure ⟨_,rfl,h _ h' tk' (.inr hp') hd' hs'⟩))
end
end HT
namespace L2
open PySem PySem.Spec PyProof.Rows
noncomputable def tT(xs:List E3)(k:List Key):Option V:=(xs.find? fun p=>decide (p.1=k)).map (·.2.2)
noncomputable def rn(xs:List E3)(k:List Key):List E3:=xs.filter fun p=>decide (p.1≠k)
theorem R3.val{xs:List E3}{ys:List (List Key×Addr×Value)}(r:Paired R3 xs ys)(k:List Key):bG (tT xs k) ((atKey ys k).map (·.2)):=by
 induction r with
 |nil=>exact True.intro
 | @cons p q ps qs h t ih=>
   by_cases e:p.1=k
   . have e':q.1=k:=h.1.symm.trans e
     have b:atKey (q ::qs) k=some q.2:=by simp[atKey,List.find?_cons,e']
     have a:tT (p ::ps) k=some p.2.2:=by simp[tT,List.find?_cons,e]
     rw[a,b];exact h.2.2
   . have e':¬ q.1=k:=fun z=>e (h.1.trans z)
     have b:atKey (q ::qs) k=atKey qs k:=by simp[atKey,List.find?_cons,e']
     have a:tT (p ::ps) k=tT ps k:=by simp[tT,List.find?_cons,e]
     rw[a,b];exact ih
theorem R3.drop{xs:List E3}{ys:List (List Key×Addr×Value)}(r:Paired R3 xs ys)(k:List Key):Paired R3 (rn xs k) (HT.nY ys k):=by
 unfold rn HT.nY
 induction r with
 |nil=>exact .nil
 | @cons p q ps qs h t ih=>
   rw[List.filter_cons,List.filter_cons,h.1]
   by_cases e:q.1=k
   . simp only[e,ne_eq,not_true_eq_false,decide_false,Bool.false_eq_true,if_false];exact ih
   . simp only[e,ne_eq,not_false_eq_true,decide_true,if_true];exact .cons h ih
theorem R3.raw{xs:List E3}{ys:List (List Key×Addr×Value)}(r:Paired R3 xs ys):∀ q∈ys,∃ v,RelV v q.2.2:=by
 induction r with
 |nil=>intro q hq;cases hq
 | cons h t ih=>
   intro q hq
   rcases List.mem_cons.mp hq with z|z
   . subst z;exact⟨_,h.2.2⟩
   . exact ih q z
theorem xD(xs:List E3)(k:List Key):(rn xs k).length<=xs.length:=List.length_filter_le _ _
section
variable{X:Cx}
noncomputable def Cr(K:PySem.W.Frag)(A:Around):V->List V->Hp->VK->Prop:=fun x vs H Q=>∃ d b xs k,x=.ref d /\ vs=[.ref b] /\ H d=some (.dT xs) /\ sL K H xs /\ SqT K H b (k.map kV) /\ A.units+1<cLine /\ Q ((tT xs k).getD .non) H
theorem AL:MtM X "dict.get" (Cr X.K X.A):=by
 intro pins s σ H x vs v us Q I rx rv h;obtain⟨d,b,xs,k,rfl,rfl,e,kk,hk,hu,q⟩:=h;cases rx;obtain⟨u,rfl,ru⟩:=rv.one;cases ru;obtain⟨z,y,ys,r3,dd⟩:=I.dT e kk
 refine HT.zu hu y (I.y0 hk) dd fun tk=>⟨_,H,I.tok _,?_,q⟩
 exact bG.getD (R3.val r3 k) rfl
noncomputable def Cy(K:PySem.W.Frag)(A:Around):V->List V->Hp->VK->Prop:=fun x vs H Q=>∃ d b xs k,x=.ref d /\ vs=[.ref b,.non] /\ H d=some (.dT xs) /\ sL K H xs /\ SqT K H b (k.map kV) /\ A.units+1<cLine /\ ∀ v,Q v (upd H d (.dT (rn xs k)))
theorem AI:MtM X "dict.pop" (Cy X.K X.A):=by
 intro pins s σ H x vs v us Q I rx rv h;obtain⟨d,b,xs,k,rfl,rfl,e,kk,hk,hu,q⟩:=h;cases rx
 cases rv with
 | cons ru rv=>
   cases ru;obtain⟨u,rfl,ru⟩:=Vals.one rv;cases ru;obtain⟨z,y,ys,r3,dd⟩:=I.dT e kk
   refine HT.zB hu y (I.y0 hk) dd (by rw[<- Paired.length r3];exact z) fun v h' tk hv dd' hs'=>?_
   have he:∃ q,h'.get? d=some q:=let ⟨q,_,_,hq,_⟩:=dd';⟨q,hq⟩
   have I2:=xn (t':=tk) I (by rw[e];exact True.intro) hs' he (sO (by have:=xD xs k;omega) y (R3.drop r3 k) dd')
   rcases hv with rfl|⟨p,hp,rfl⟩
   . exact⟨.non,_,I2,rfl,q .non⟩
   . obtain⟨vv,rvv⟩:=R3.raw r3 _ hp
     exact⟨vv,_,I2,rvv,q vv⟩
noncomputable def wm:TE:=fun _ H Q=>∀ p,H p=none->Q (.ref p) (upd H p (.dT []))
theorem zz{pos:Pos}:PE X (.Dict [] [] pos) wm:=fun pins s σ H Q I h=>
 wpAny_Dict_empty ⟨.ref s.heap.objs.size,_,I.laid (a:=s.heap.objs.size) (o:=.dT []) (t':=s.toks) (fun _ _ q=>Heap.get?_push_of_some _ q) (Nat.le_refl _) (sO (Nat.zero_le _) (beq_eq_false_iff_ne.mpr (Ne.symm (Nat.ne_of_lt I.big))) .nil (Heap.DictOfH.new s.heap)),rfl,h _ (I.hok.fresh (Nat.le_refl _))⟩
end
end L2
namespace L2.E
open PySem PySem.Spec PyProof.Rows L2
theorem y4{X:Cx}{pos:Pos}:QE X (.Dict [] [] pos) wm:=⟨zz⟩
end L2.E
namespace L2.P
open PySem
noncomputable def nO(d:DT)(k:List Int):Option PV:=(d.find? fun p=>decide (p.1=k)).map (·.2)
noncomputable def jS(d:DT)(k:List Int):DT:=d.filter fun p=>decide (p.1≠k)
noncomputable def tP(i:Nat)(mp:MP)(mk mv:ah->OE):ah->OS:=fun ρ=>(mv ρ).bU ρ fun r=>match r with
 | .sh x=>sP i mp ρ fun u put=>(match u with
   | .dt d=>(mk ρ).bU ρ fun k=>(match p6 k.pv with
     |some k=>if d.length<lim then .nx (put (.dt (kx d k x)))else .bad
     |none=>.bad)
   |_=>.bad)
 |_=>.bad
noncomputable def sZ(i:Nat)(mp:MP)(mk:ah->OE):ah->OS:=fun ρ=>sP i mp ρ fun u put=>(match u with
 | .dt d=>(mk ρ).bU ρ fun k=>(match p6 k.pv with
   |some k=>.nx (put (.dt (jS d k)))
   |none=>.bad)
 |_=>.bad)
noncomputable def pb(i:Nat)(mp:MP)(mk:ah->OE):ah->OE:=fun ρ=>match subAt i mp ρ with
 | some (.dt d)=>(mk ρ).bind fun k=>(match p6 k.pv with
   |some k=>.ok (.sh ((nO d k).getD .non))
   |none=>.bad)
 |_=>.bad
noncomputable def la(i:Nat)(mp:MP):ah->OE:=fun ρ=>match subAt i mp ρ with
 |some (.dt d)=>.ok (.sh (.tup (az d)))
 |_=>.bad
end L2.P
namespace L2.P
open PySem PySem.Spec PyProof.Rows L2 L2.E
section
variable{K:PySem.W.Frag}{cls:String->Option Addr}{W:XW}{Av G S₀ S S' H H' B B':Hp}{ρ:ah}{σ:St}{Q:VK}{F:Nat->List Addr}
theorem SRF.zx{i:Nat}{io:Bool}{t:OV}{d:DT}{v0:V}{π:List Stp}(J:SRF K cls Av G S₀ ρ σ S H F)(hi:ρ[i]?=some (some (.tr io t)))(hv:σ[i]?=some (some v0))(e:t.get π=some (.dt d)):
  ∃ q us,hJ H v0 π (.ref q) /\ H q=some (.dT us) /\ cF K S d us /\
    ∀ S' H' d' us',aZ S H S' H'->cF K S' d' us'->∃ g,SRF K cls Av G S₀ (ρ.set i (some (.tr io (t.put π (.dt d'))))) σ S' (upd H' q (.dT us')) (nj F i g):=by
 obtain⟨w,f1,rest,wk,r1,p1,nd1,gs,c⟩:=J.part hi hv e;unfold bG at r1;obtain⟨q,us,rfl,hq,rfl,rs⟩:=r1
 refine⟨q,us,wk,hq,rs,fun S' H' d' us' wg r'=>?_⟩
 have hGq:=(gs q (by simp)).1;have hSq:=(gs q (by simp)).2
 have hS'q:S' q=none:=by
  cases z:S' q with
  |none=>rfl
  | some o=>
    rcases wg.new q (by rw[z];simp)with y|y
    . exact absurd hSq y
    . rw[hq]at y;cases y
 obtain⟨g,hg,_⟩:=c S' (upd H' q (.dT us')) (.dt d') [q] wg.s (wg.sh.upd hS'q) ((J.gh.trans wg.g).upd hGq) (fun b h=>by
   rcases wg.new b h with z|z
   . exact J.new b z
   . exact .inr (J.gh.free z)) (by unfold bG;exact⟨q,us',rfl,bE,rfl,r'⟩) (by simp) (fun a ha=>.inl ha) (fun a ha=>by rw[List.mem_singleton.mp ha];exact hS'q) (fun a o hn h=>by
   rw[bY (fun z=>hn (by rw[z];simp))];exact wg.g _ _ h) fun a h=>by
   rcases wg.new a h with z|z
   . exact .inl z
   . exact .inr (.inl z)
 exact⟨g,hg⟩
theorem vZ{x:PV}{v:V}{ns:List Int}(e:p6 x=some ns)(h:RdV K S H x v):∃ b,v=.ref b /\ SqT K S b ((ns.map Sum.inl).map kV) /\ Rep K S (.tup (ns.map .int)) (.ref b):=by
 cases x with
 |tup xs=>exact wt e h
 |_=>cases e
theorem yB{i:Nat}{te tk tx:TE}{mp:MP}{mk mv:ah->OE}(hp:JP K cls te i mp)(hk:JE K cls W tk mk)(hx:JE K cls W tx mv):JS K cls W (vG K te tk tx) (tP i mp mk mv):=by
 intro Av G S₀ ρ σ S H D I p;unfold tP at p
 refine hx.goS I p fun r v S1 H1 I1 w1 r1 p1=>?_
 cases r with
 |fr xs=>exact p1.elim
 |al xs=>exact p1.elim
 | sh x=>
   dsimp only at p1
   obtain⟨io,t,π,u,hi,e0,e1,p2⟩:=qq p1;obtain⟨v0,hv0⟩:=I1.val hi
   cases u with
   |sh x=>exact p2.elim
   |ob c ks us=>exact p2.elim
   |ol x=>exact p2.elim
   |di x=>exact p2.elim
   | dt d=>
     dsimp only at p2
     refine hp.at I1 hi hv0 e0 e1 fun w S2 H2 w2 I2 wk=>?_
     have p3:=p2.back w2.s
     refine hk.goS I2 p3 fun k z S3 H3 I3 w3 r3 p4=>?_
     cases en:p6 k.pv with
     |none=>rw[en]at p4;exact p4.elim
     | some ks=>
       rw[en]at p4
       dsimp only at p4
       split at p4
       . rename_i hlt;obtain⟨F,J⟩:=id I1;obtain⟨q,us,wk',hq,hd,c⟩:=J.zx hi hv0 e1;have:=wk.inj (wk'.mono w2.g);subst this;obtain⟨b,rfl,hb,hkr⟩:=vZ en (r3.rd I3.sh)
         have wg:aZ S1 H1 S3 H3:=w2.trans w3
         have hlu:us.length<sizeLine:=by rw[<- vE,<- Paired.length hd];exact hlt
         have hd3:=cF.mono wg.s hd;obtain⟨g,J3⟩:=c S3 H3 (kx d ks x) (rz us (ks.map Sum.inl) b v) wg (cF.put hd3 ks hkr (Rep.mono wg.s r1))
         exact⟨q,b,us,ks.map Sum.inl,rfl,rfl,wg.g _ _ hq,cF.y3 I3.sh hd3,aD.tup I3.sh hb,hlu,p4 σ S3 _ ⟨_,J3⟩ (aD.refl _)⟩
       . exact p4.elim
theorem cF.drop{d:DT}{xs:List E3}(r:cF K S d xs)(k:List Int):cF K S (jS d k) (rn xs (k.map Sum.inl)):=by
 unfold jS rn
 induction r with
 |nil=>exact .nil
 | @cons p q ps qs h t ih=>
   rw[List.filter_cons,List.filter_cons]
   have e:decide (q.1≠k.map Sum.inl)=decide (p.1≠k):=decide_eq_decide.mpr (by rw[h.1];exact not_congr qf)
   rw[e];split
   . exact .cons h ih
   . exact ih
theorem zr{A:Around}{i:Nat}{te tk:TE}{mp:MP}{mk:ah->OE}(hu:A.units+1<cLine)(hp:JP K cls te i mp)(hk:JE K cls W tk mk):JS K cls W (qU (tBM K "dict" (Cy K A) te (fL tk (fL (tC .non) kb)))) (sZ i mp mk):=by
 intro Av G S₀ ρ σ S H D I p;unfold sZ at p;obtain⟨io,t,π,u,hi,e0,e1,p2⟩:=qq p;obtain⟨v0,hv0⟩:=I.val hi
 cases u with
 |sh x=>exact p2.elim
 |ob c ks us=>exact p2.elim
 |ol x=>exact p2.elim
 |di x=>exact p2.elim
 | dt d=>
   dsimp only at p2
   refine hp.at I hi hv0 e0 e1 fun w S2 H2 w2 I2 wk=>?_
   obtain⟨F,J⟩:=id I;obtain⟨q,us,wk',hq,hd,c⟩:=J.zx hi hv0 e1;have:=wk.inj (wk'.mono w2.g);subst this
   refine⟨.inr (.inr (.inl ⟨rfl,.inr ⟨_,w2.g _ _ hq⟩⟩)),?_⟩
   have p3:=p2.back w2.s
   refine hk.goS I2 p3 fun k z S3 H3 I3 w3 r3 p4=>?_
   cases en:p6 k.pv with
   |none=>rw[en]at p4;exact p4.elim
   | some ks=>
     rw[en]at p4
     dsimp only at p4
     obtain⟨b,rfl,hb,hkr⟩:=vZ en (r3.rd I3.sh)
     have wg:aZ S H S3 H3:=w2.trans w3
     have hd3:=cF.mono wg.s hd;obtain⟨g,J3⟩:=c S3 H3 (jS d ks) (rn us (ks.map Sum.inl)) wg (cF.drop hd3 ks)
     exact⟨q,b,us,ks.map Sum.inl,rfl,rfl,wg.g _ _ hq,cF.y3 I3.sh hd3,aD.tup I3.sh hb,hu,fun v=>p4 σ S3 _ ⟨_,J3⟩ (aD.refl _)⟩
theorem cF.look{d:DT}{xs:List E3}(r:cF K S d xs)(k:List Int):Rep K S ((nO d k).getD .non) ((tT xs (k.map Sum.inl)).getD .non):=by
 unfold nO tT
 induction r with
 |nil=>show Rep K S .non .non;unfold Rep;rfl
 | @cons p q ps qs h t ih=>
   rw[List.find?_cons,List.find?_cons]
   have e:decide (q.1=k.map Sum.inl)=decide (p.1=k):=decide_eq_decide.mpr (by rw[h.1];exact qf)
   rw[e]
   by_cases z:p.1=k
   . simp only[z,decide_true];exact h.2.2
   . simp only[z,decide_false];exact ih
theorem z8{A:Around}{i:Nat}{td ta:TE}{mp:MP}{ma:ah->OE}(hu:A.units+1<cLine)(hp:JP K cls td i mp)(ha:JE K cls W ta ma):JE K cls W (tBM K "dict" (Cr K A) td (fL ta kb)) (pb i mp ma):=by
 intro Av G S₀ ρ σ S H Q I p;unfold pb at p;split at p
 . rename_i d es
   refine hp.sub I es fun w S2 H2 f w2 I2 r=>?_
   have r0:=r;unfold bG at r0;obtain⟨q,us,rfl,hq,_,hd⟩:=r0
   refine⟨.inr (.inr (.inl ⟨rfl,.inr ⟨_,hq⟩⟩)),?_⟩
   refine ha.go I2 (p.back w2) fun a v S1 H1 I1 w1 r1 p1=>?_
   cases e:p6 a.pv with
   |none=>rw[e]at p1;exact p1.elim
   | some ks=>
     rw[e]at p1
     dsimp only at p1
     obtain⟨b,rfl,hb,hkr⟩:=vZ e (r1.rd I1.sh);have hd1:=cF.mono w1.s hd
     exact⟨q,b,us,ks.map Sum.inl,rfl,rfl,w1.g _ _ hq,cF.y3 I1.sh hd1,aD.tup I1.sh hb,hu,p1 _ S1 H1 (aZ.refl I1.sh) (cF.look hd1 ks)⟩
 . exact p.elim
theorem v7{A:Around}{i:Nat}{td:TE}{mp:MP}(hh:A.handled=none)(hp:JP K cls td i mp):JE K cls W (tCB (B9 A) (fL (BF K "dict" xm td) kb)) (la i mp):=by
 intro Av G S₀ ρ σ S H Q I p;unfold la at p;split at p
 . rename_i d es
   refine hp.sub I es fun w S2 H2 f w2 I2 r=>?_
   unfold bG at r;obtain⟨q,us,rfl,hq,_,hd⟩:=r
   refine⟨.inr (.inr (.inl ⟨rfl,.inr ⟨_,hq⟩⟩)),q,us,rfl,rfl,hq,fun vw hvw=>?_⟩
   have w6:=aZ.heap (o:=vwO vw q) I2.sh hvw
   have hbv:q≠vw:=fun z=>by rw[<- z,hq]at hvw;cases hvw
   refine⟨vw,q,_,rfl,bE,by rw[bY hbv];exact hq,hh,y6 w6.sh hd fun as S7 H7 w7 r7=>fun t ht=>?_⟩
   have w8:=aZ.both (o:=.tup (as.map .ref)) w7.sh ht;refine p (.ref t) _ _ (w2.trans ((w6.trans w7).trans w8)) ?_;show Rep K _ _ _;unfold Rep
   exact⟨t,_,rfl,SqT.new bE,r7.mono w8.s⟩
 . exact p.elim
end
end L2.P
namespace L2.P
open PySem
noncomputable def Bb:ah->OD:=fun _=>.ok (.dt [])
noncomputable def tV(me:ah->OE):ah->OD:=fun ρ=>match me ρ with
 | .ok r=>(match r.pv with
   | .tup ps=>(match ni ps with
     |some d=>if ps.length<=lim then .ok (.dt (B6 d))else .bad
     |none=>.bad)
   |_=>.bad)
 |.exc c fs=>.exc c fs
 |.bad=>.bad
noncomputable def x4(mc:ah->OT)(a b:ah->OD):ah->OD:=fun ρ=>match mc ρ with
 |.ok k=>if k=true then a ρ else b ρ
 |.exc c fs=>.exc c fs
 |.bad=>.bad
noncomputable def qE(f:List PV->OD)(ma:ah->OA):ah->OD:=fun ρ=>match ma ρ with
 |.ok xs=>f xs
 |.exc c fs=>.exc c fs
 |.bad=>.bad
noncomputable def fnD(np n:Nat)(m:ah->OD):List PV->OD:=fun xs=>if xs.length=np then m (hZ n xs)else .bad
end L2.P
namespace L2.P
open PySem PySem.Spec PyProof.Rows L2 L2.E
section
variable{K:PySem.W.Frag}{cls:String->Option Addr}{W:XW}{Av G S₀ S S' H H' B B':Hp}{ρ:ah}{σ:St}{Q:VK}
theorem Cq{us:List E3}{q:Addr}{d:DT}(hB:B q=none)(hS:S q=none)(h:H q=some (.dT us))(r:cF K S d us):wq K cls B S H (.dt d) (.ref q):=by
 refine⟨[q],?_,by simp,fun a ha=>?_⟩
 . unfold bG;exact⟨q,us,rfl,h,rfl,r⟩
 . have z:a=q:=by simpa using ha
   subst z
   exact⟨hB,hS⟩
theorem Ea:JD K cls W wm Bb:=by
 intro Av G S₀ ρ σ S H Q I p q hq;exact p (.ref q) S _ (aZ.heap I.sh hq) (Cq hq (I.sh.free hq) bE .nil)
theorem AE{A:Around}{te:TE}{me:ah->OE}(hh:A.handled=none)(hu:A.units+2<cLine)(he:JE K cls W te me):JD K cls W (tCB (zg K A) (fL te kb)) (tV me):=by
 intro Av G S₀ ρ σ S H Q I p;unfold tV at p;refine he Av G S₀ ρ σ S H _ I ?_
 cases em:me ρ with
 |exc c fs=>rw[em]at p;exact p
 |bad=>rw[em]at p;exact p
 | ok r=>
   rw[em]at p;intro z S1 H1 w1 r1;have I1:=I.grow w1;have ra:=r1.rd I1.sh
   dsimp only at p
   cases er:r.pv with
   | tup ps=>
     rw[er]at p ra
     dsimp only at p
     cases ed:ni ps with
     |none=>rw[ed]at p;exact p.elim
     | some d=>
       rw[ed]at p
       dsimp only at p
       split at p
       . obtain⟨q,vs,rfl,hq,hr⟩:=fM ra;obtain⟨es,h1,h2⟩:=pairs_at I1.sh ed hr
         refine⟨q,vs,es,rfl,aD.tup I1.sh hq,h1,hh,hu,fun b hb=>?_⟩
         have w2:=aZ.heap (o:=.dT (oK [] es)) I1.sh hb;exact p (.ref b) _ _ (w1.trans w2) (Cq (w1.g.free hb) (I1.sh.free hb) bE (cF.Bd h2 .nil))
       . exact p.elim
   |_=>rw[er]at p;exact p.elim
theorem pX.back(w:aZ S H S' H'){o:OD}(p:pX K cls W σ S H Q o):pX K cls W σ S' H' Q o:=by
 cases o with
 |ok t=>exact fun v S2 H2 w2 n=>p v S2 H2 (w.trans w2) (let ⟨fp,r,nd,g⟩:=n;⟨fp,r,nd,fun a ha=>⟨w.g.free (g a ha).1,(g a ha).2⟩⟩)
 |exc c fs=>exact fun a C S2 H2 w2 x=>p a C S2 H2 (w.trans w2) x
 |bad=>exact p
theorem EM{tc:TT}{ta tb:TE}{mc:ah->OT}{ma mb:ah->OD}(hc:JT K cls W tc mc)(ha:JD K cls W ta ma)(hb:JD K cls W tb mb):JD K cls W (tIf tc ta tb) (x4 mc ma mb):=by
 intro Av G S₀ ρ σ S H Q I p;unfold x4 at p;refine hc Av G S₀ ρ σ S H _ I ?_
 cases em:mc ρ with
 |exc c fs=>rw[em]at p;exact p
 |bad=>rw[em]at p;exact p
 | ok k=>
   rw[em]at p;intro S1 H1 w1
   cases k with
   |true=>exact uB (ha Av G S₀ ρ σ S1 H1 Q (I.grow w1) (pX.back w1 p))
   |false=>exact uC (hb Av G S₀ ρ σ S1 H1 Q (I.grow w1) (pX.back w1 p))
noncomputable def Dp(K:PySem.W.Frag)(cls:String->Option Addr)(S H:Hp)(Q:VK)(E:XK):OD->Prop
 |.ok t=>∀ v S' H',aZ S H S' H'->wq K cls H S' H' t v->Q v H'
 |.exc c fs=>∀ a C S' H',aZ S H S' H'->kC K cls S' H' c fs a C->E (.ref C) (some a) H'
 |.bad=>False
noncomputable def spD(K:PySem.W.Frag)(cls:String->Option Addr)(f:List PV->OD):Sp:=fun vs H Q E=>∃ S xs,aD S H /\ bA K S xs vs /\ Dp K cls S H Q E (f xs)
theorem AN{t:TA}{ma:ah->OA}{f:List PV->OD}(h:JA K cls W t ma):JD K cls W (ph (spD K cls f) [] W t) (qE f ma):=by
 intro Av G S₀ ρ σ S H Q I p;unfold qE at p;refine h Av G S₀ ρ σ S H _ I ?_
 cases em:ma ρ with
 |exc c fs=>rw[em]at p;exact p
 |bad=>rw[em]at p;exact p
 | ok xs=>
   rw[em]at p;intro vs S1 H1 w1 r1;show spD K cls f (vs++[]) H1 Q _;rw[List.append_nil]
   refine⟨S1,xs,w1.sh,r1,?_⟩
   have q:pX K cls W σ S1 H1 Q (f xs):=pX.back w1 p
   cases e:f xs with
   |ok r=>rw[e]at q;exact q
   |exc c fs=>rw[e]at q;exact q
   |bad=>rw[e]at q;exact q
theorem Fl{P:Program}{w:World}{mg:Str->Option Value}{base:Heap}{x qual:Str}{st:Stmt}{f:Addr}{fd:FuncData}{N ps:List Str}{k:Nat}{m:ah->OD}(F:Fun K x qual st f fd)(Sc:bu N ps (aJ st))
  (hbody:∀(cdv:Value) (A:Around) (outer:List Env) (s:Shared) (H:Hp) (E:XK),ip k (A.deeper (envOfC qual (aJ st) s.heap.objs.size f cdv)) ->
    ∃ te,QSs (n8 (CXE P w) P w K mg base N qual (aJ st) f cdv A outer s H E) (eU st) (xS te) /\ JD K cls (fun C a _ H=>∀ H',aD H H'->E C a H') te m):cn P w K mg base (CXE P w) (k+1) f fd ps (spD K cls (fnD ps.length N.length m)):=by
 refine okX F Sc (fun vs H Q E h=>?_) fun cdv A outer s H vs Q E hr h=>?_
 . obtain⟨S,xs,_,r,q⟩:=h;unfold fnD at q;split at q
   . rw[r.length];assumption
   . exact q.elim
 . obtain⟨S,xs,sS,r,q⟩:=h;unfold fnD at q;split at q
   . rename_i hl;obtain⟨te,ht,J⟩:=hbody cdv A outer s H E hr
     refine⟨xS te,ht.out,?_⟩
     have I0:SR K cls (fun _=>none) H S (hZ N.length xs) (start N vs) S H:=⟨fun _=>[],aD.refl _,aD.refl _,sS,fun _ z=>.inl z,fun i s e=>by
      obtain⟨x,v,rfl,e1,rx⟩:=r.begin N i s e
      exact⟨v,e1,rfl,rx⟩,fun i j a h=>(nomatch h),fun i a h=>(nomatch h),by unfold hZ L2.start;simp[r.length]⟩
     refine J (fun _=>none) H S (hZ N.length xs) (start N vs) S H _ I0 ?_
     cases e:m (hZ N.length xs)with
     |ok t=>rw[e]at q;exact q
     |exc c fs=>rw[e]at q;exact fun a C S' H' w' x' H2 g2=>q a C S' H2 ⟨w'.s,w'.g.trans g2,w'.sh.trans g2,w'.new⟩ (x'.mono (aD.refl _) g2)
     |bad=>rw[e]at q;exact q
   . exact q.elim
end
end L2.P
namespace L2.P
open PySem
noncomputable def oN:PV->PV->Option RV:=fun x y=>if(bK x 199&&bK y 199)=true then some (.sh (.bl (bI x y)))else none
noncomputable def xW:PV->PV->Option RV:=fun x y=>if(bK x 199&&bK y 199)=true then some (.sh (.bl (!bI x y)))else none
end L2.P
namespace L2.P
open PySem PySem.Spec PyProof.Rows L2 L2.E PySem.SeqAt
section
variable{X:Cx}
noncomputable def Bh(K:PySem.W.Frag)(A:Around)(neg:Bool):R2:=fun v u H Q=>∃ x y,Rep K H x v /\ Rep K H y u /\ (bK x 199&&bK y 199)=true /\ A.units+199<cLine /\ Q (.bl (if neg then !bI x y else bI x y)) H
theorem B3{A:Around}{x y:PV}(h:bK x 199=true)(hu:A.units+199<cLine):A.units+min (dOf x).depth (dOf y).depth<cLine:=by
 have:=(m9 x 199 h).2
 have:min (dOf x).depth (dOf y).depth<=(dOf x).depth:=Nat.min_le_left _ _
 omega
theorem qS:OpR X (compareOp .Eq) (Bh X.K X.A false):=by
 intro pins s σ H v u a b Q I rx ry h;obtain⟨x,y,h1,h2,ok,hu,q⟩:=h;rw[Bool.and_eq_true]at ok;obtain⟨as,ra⟩:=gY I x v a h1 rx;obtain⟨bs,rb⟩:=gY I y u b h2 ry;refine compareEq_reads ra rb (m9 x 199 ok.1).1 (m9 y 199 ok.2).1 (B3 ok.1 hu) ⟨.bl _,H,I,rfl,?_⟩;rw[nX];exact q
theorem D5:OpR X (compareOp .NotEq) (Bh X.K X.A true):=by
 intro pins s σ H v u a b Q I rx ry h;obtain⟨x,y,h1,h2,ok,hu,q⟩:=h;rw[Bool.and_eq_true]at ok;obtain⟨as,ra⟩:=gY I x v a h1 rx;obtain⟨bs,rb⟩:=gY I y u b h2 ry;refine compareNe_reads ra rb (m9 x 199 ok.1).1 (m9 y 199 ok.2).1 (B3 ok.1 hu) ⟨.bl _,H,I,rfl,?_⟩;rw[nX];exact q
theorem unE{A:Around}{k:Nat}(hr:ip k A):A.units+199<cLine:=by have:=hr.un;omega
end
section
variable{K:PySem.W.Frag}{S H:Hp}
theorem rj{A:Around}(hu:A.units+199<cLine):JR K (Bh K A false) oN:=by
 intro S H x y v u rr Q I hx hy e k;unfold oN at e;split at e
 . rename_i ok;cases e
   exact⟨x,y,hx.rep I,hy.rep I,ok,hu,k _ S H (aZ.refl I) i3⟩
 . cases e
theorem DH{A:Around}(hu:A.units+199<cLine):JR K (Bh K A true) xW:=by
 intro S H x y v u rr Q I hx hy e k;unfold xW at e;split at e
 . rename_i ok;cases e
   exact⟨x,y,hx.rep I,hy.rep I,ok,hu,k _ S H (aZ.refl I) i3⟩
 . cases e
end
end L2.P
namespace PG
noncomputable def F7(n:Int):Bool:=(decide (0<=n)&&decide (n<55296))||(decide (57343<n)&&decide (n<=1114111))
noncomputable def cell(ns:List Int)(k:Int):Int:=if ns=[]then 0 else ns.getD (k%(ns.length:Int)).toNat 0
noncomputable def mix(ns:List Int)(k:Int):Int:=
 let a:=(cell ns k+104729*(k+1))%4294967291
 let b:=a*48271%4294967279
 (b/64*69621+b)%4294967231
theorem yV(ns:List Int)(k:Int):0<=mix ns k /\ mix ns k<4294967231:=by unfold mix;dsimp only;omega
end PG
namespace L2.P
open PySem
theorem gc{i:Nat}{mb:ah->OS}{x:PV}{xs:List PV}{ρ ρ':ah}(h:mb (ρ.set i (some (.sh x)))=.nx ρ'):cG i mb (x ::xs) ρ=cG i mb xs ρ':=by rw[ib,h];rfl
theorem DS(n:Nat):ixP (n+1) (-1)=some n:=by
 unfold ixP;rw[if_neg (by decide),if_pos (by omega)]
 congr 1
 omega
theorem nF(init:List OV)(x:OV)(r:List OV)(π:List Stp):(OV.ol (init++x ::r)).get (.ix init.length ::π)=x.get π:=by
 show((init++x ::r)[init.length]?).bind _=_
 simp
theorem vi(init:List OV)(x y:OV)(r:List OV)(π:List Stp):(OV.ol (init++x ::r)).put (.ix init.length ::π) y=.ol (init++x.put π y ::r):=by
 have h:(OV.ol (init++x ::r)).at1 (.ix init.length)=some x:=by show(init++x ::r)[init.length]?=_;simp
 have e:(OV.ol (init++x ::r)).put (.ix init.length ::π) y=(match (OV.ol (init++x ::r)).at1 (.ix init.length)with
  |some t'=>(OV.ol (init++x ::r)).zy (.ix init.length) (t'.put π y)
  |none=>OV.ol (init++x ::r)):=rfl
 rw[e,h];show OV.ol ((init++x ::r).set init.length (x.put π y))=_;simp
@[simp] theorem get_nil(t:OV):t.get []=some t:=by cases t<;>rfl
@[simp] theorem qg(t u:OV):t.put [] u=u:=by cases t<;>rfl
theorem uD{ρ:ah}{i:Nat}{io:Bool}{init:List OV}{x:OV}(h:ρ[i]?=some (some (.tr io (.ol (init++[x]))))):pIx i bL (mUn j2 (mC (.int 1))) ρ=some [.ix init.length]:=by
 unfold pIx dP;rw[h]
 have e:(mUn j2 (mC (.int 1))) ρ=.ok (.sh (.int (-1))):=rfl
 simp[slT,bL,e,DS]
theorem t8{ρ:ah}{i:Nat}{io:Bool}{ts:List OV}{md:ah->OD}{x:OV}(h:ρ[i]?=some (some (.tr io (.ol ts))))(hd:md ρ=.ok x)(hl:ts.length<lim):
  fZ i bL md ρ=.nx (ρ.set i (some (.tr io (.ol (ts++[x]))))):=by
 unfold fZ sP bL;rw[h];simp only[get_nil];rw[hd];simp only[hl,if_true,qg]
theorem nE{ρ:ah}{i:Nat}{io:Bool}{ts:List OV}(h:ρ[i]?=some (some (.tr io (.ol ts)))):dW i bL ρ=.ok (!ts.isEmpty):=by
 unfold dW subAt dP bL;rw[h];simp[slT]
noncomputable abbrev rh(i:Nat):MP:=pIx i bL (mUn j2 (mC (.int 1)))
section
variable{ρ:ah}{i:Nat}{io:Bool}{init us:List OV}{x:PV}
theorem AK(h:ρ[i]?=some (some (.tr io (.ol (init++[.ol [.sh x,.ol us]]))))):pIx i (rh i) (mC (.int 0)) ρ=some [.ix init.length,.ix 0]:=by
 have h1:=uD h
 have ht:dP i ρ=some (.ol (init++[.ol [.sh x,.ol us]])):=by unfold dP;rw[h];rfl
 unfold pIx;rw[ht];simp only[rh,h1,nF init _ [] [],get_nil];rfl
theorem wK(h:ρ[i]?=some (some (.tr io (.ol (init++[.ol [.sh x,.ol us]]))))):pIx i (rh i) (mC (.int 1)) ρ=some [.ix init.length,.ix 1]:=by
 have h1:=uD h
 have ht:dP i ρ=some (.ol (init++[.ol [.sh x,.ol us]])):=by unfold dP;rw[h];rfl
 unfold pIx;rw[ht];simp only[rh,h1,nF init _ [] [],get_nil];rfl
theorem v9(h:ρ[i]?=some (some (.tr io (.ol (init++[.ol [.sh x,.ol us]]))))):jH i (pIx i (rh i) (mC (.int 0))) ρ=.ok (.sh x):=by
 have ht:dP i ρ=some (.ol (init++[.ol [.sh x,.ol us]])):=by unfold dP;rw[h];rfl
 unfold jH subAt;rw[ht];simp only[AK h,nF init _ [] [.ix 0]];rfl
theorem xO(h:ρ[i]?=some (some (.tr io (.ol (init++[.ol [.sh x,.ol us]]))))):pN i (pIx i (rh i) (mC (.int 1))) ρ=.ok (.sh (.int us.length)):=by
 have ht:dP i ρ=some (.ol (init++[.ol [.sh x,.ol us]])):=by unfold dP;rw[h];rfl
 unfold pN subAt;rw[ht];simp only[wK h,nF init _ [] [.ix 1]];rfl
theorem nQ{md:ah->OD}{y:OV}(h:ρ[i]?=some (some (.tr io (.ol (init++[.ol [.sh x,.ol us]])))))(hd:md ρ=.ok y)(hl:us.length<lim):
  fZ i (pIx i (rh i) (mC (.int 1))) md ρ=.nx (ρ.set i (some (.tr io (.ol (init++[.ol [.sh x,.ol (us++[y])]]))))):=by
 unfold fZ sP;rw[h]
 have hg:(OV.ol [.sh x,.ol us]).get [.ix 1]=some (.ol us):=rfl
 have hp:∀ u,(OV.ol [.sh x,.ol us]).put [.ix 1] u=.ol [.sh x,u]:=fun u=>rfl
 simp only[wK h,nF init _ [] [.ix 1],hg];rw[hd];simp only[hl,if_true,vi init _ _ [] [.ix 1],hp]
end
theorem zv{ρ:ah}{i:Nat}{io:Bool}{ts:List OV}{x:OV}(h:ρ[i]?=some (some (.tr io (.ol (ts++[x]))))):qH i bL ρ=.ok (ρ.set i (some (.tr io (.ol ts)))) (slO x):=by
 unfold qH bL;rw[h];simp
@[simp] theorem B0(s:String):(Str.ofString s).cps.all (·<0x110000)=true:=by
  rw[Str.ofString_eq_toList,List.all_toArray,List.all_map];rw[List.all_eq_true];intro c _;have:=c.valid;simp only[Function.comp,decide_eq_true_eq]
  rcases this with h|⟨_,h⟩
  . exact Nat.lt_of_lt_of_le h (by decide)
  . exact h
theorem toNat_inj:∀(xs ys:List Char),xs.map Char.toNat=ys.map Char.toNat->xs=ys
 |[],[],_=>rfl
 |[],_ ::_,h=>by cases h
 |_ ::_,[],h=>by cases h
 | x ::xs,y ::ys,h=>by
   rw[List.map_cons,List.map_cons]at h
   injection h with h1 h2
   have:x=y:=Char.ext (UInt32.toNat_inj.mp h1)
   rw[this,toNat_inj xs ys h2]
theorem tR(a b:String):Str.ofString a=Str.ofString b↔a=b:=by
 constructor
 . intro h;rw[Str.ofString_eq_toList,Str.ofString_eq_toList]at h
   injection h with h
   have h2:a.toList.map Char.toNat=b.toList.map Char.toNat:=by
    have:=congrArg Array.toList h
    simpa using this
   exact String.toList_inj.mp (toNat_inj _ _ h2)
 . intro h;rw[h]
@[simp] theorem Br(a b:String):(Str.ofString a==Str.ofString b)=decide (a=b):=by
  by_cases h:a=b
  . subst h;simp
  . have:Str.ofString a≠Str.ofString b:=fun z=>h ((tR a b).mp z)
    simp[h,this]
@[simp] theorem FG(a b:String):bI (.str (Str.ofString a)) (.str (Str.ofString b))=decide (a=b):=by simp[bI]
@[simp] theorem G3(a:String)(n:Nat):bK (.str (Str.ofString a)) n=true:=by simp[bK]
end L2.P
namespace PJ
open PySem L2.P
inductive JV where
 |lf (x:PV)|row (vs:List JV)|fld (ns:List (List Int)) (vs:List JV)
noncomputable def mem(n:List Int)(x:PV):PV:=.tup [.tup (n.map .int),x]
mutual
noncomputable def enc:JV->PV
 |.lf x=>x
 |.row vs=>.tup [.str "row",.tup (jx vs)]
 |.fld ns vs=>.tup [.str "fields",.tup (List.zipWith mem ns (jx vs))]
noncomputable def jx:List JV->List PV
 |[]=>[]
 |v ::vs=>enc v ::jx vs
end
mutual
noncomputable def size:JV->Nat
 |.lf _=>1
 |.row vs=>1+dJ vs
 |.fld _ vs=>1+dJ vs
noncomputable def dJ:List JV->Nat
 |[]=>0
 |v ::vs=>size v+dJ vs
end
theorem qA(vs:List JV):jx vs=vs.map enc:=by
 induction vs with
 |nil=>rfl
 |cons v vs ih=>show enc v ::jx vs=_;rw[ih];rfl
theorem kO(vs:List JV):(jx vs).length=vs.length:=by rw[qA];simp
theorem n9(vs ws:List JV):dJ (vs++ws)=dJ vs+dJ ws:=by
 induction vs with
 |nil=>simp[dJ]
 |cons v vs ih=>show size v+dJ (vs++ws)=size v+dJ vs+dJ ws;rw[ih];omega
theorem size_pos(v:JV):1<=size v:=by cases v<;>simp[size]
theorem qB(vs:List JV):vs.length<=dJ vs:=by
 induction vs with
 |nil=>simp[dJ]
 |cons v vs ih=>have:=size_pos v;simp[dJ];omega
noncomputable def named(n:Int):List Int:=if n<6 then([[],[97],[97,98],[126,47],[48],[233]]:List (List Int)).getD n.toNat []else[98+n]
noncomputable def small(n:Int):PV:=
 if n%6<3 then([.non,.bl true,.bl false]:List PV).getD (n%6).toNat .non
 else if n%6=3 then .tup [.str "text",.tup ((([[97],[34,10],[],[233,128512]]:List (List Int)).getD (n/6%4).toNat []).map .int)]
 else if n%6=4 then .tup [.str "number",.int (1+n/6%9),.int (n/6/9%5 - 2)]
 else if n/6%2=0 then .tup [.str "number",.int 0,.int 0]else .tup [.str "number",.int (-10*(n/6) - 3),.int 0]
noncomputable def oB(x:PV):Prop:=x=.non \/ (∃ b,x=.bl b) \/ (∃ n p:Int,x=.tup [.str "number",.int n,.int p] /\ (n%10≠0 \/ (n=0 /\ p=0))) \/ ∃ cs:List Int,x=.tup [.str "text",.tup (cs.map .int)] /\ cs.all PG.F7=true
theorem uX(n:Int):oB (small n):=by
 unfold small
 by_cases h1:n%6<3
 . have hh:n%6=0 \/ n%6=1 \/ n%6=2:=by omega
   simp only[h1,if_true]
   rcases hh with h|h|h<;>rw[h]
   . exact .inl rfl
   . exact .inr (.inl ⟨true,rfl⟩)
   . exact .inr (.inl ⟨false,rfl⟩)
 . by_cases h2:n%6=3
   . simp only[h2];refine .inr (.inr (.inr ⟨_,rfl,?_⟩))
     have hh:n/6%4=0 \/ n/6%4=1 \/ n/6%4=2 \/ n/6%4=3:=by omega
     rcases hh with h|h|h|h<;>rw[h]<;>decide
   . by_cases h3:n%6=4
     . simp only[h3];exact .inr (.inr (.inl ⟨_,_,rfl,.inl (by omega)⟩))
     . simp only[h1,h2,h3,if_false]
       by_cases h4:n/6%2=0
       . rw[if_pos h4];exact .inr (.inr (.inl ⟨_,_,rfl,.inr ⟨rfl,rfl⟩⟩))
       . rw[if_neg h4];exact .inr (.inr (.inl ⟨_,_,rfl,.inl (by omega)⟩))
abbrev Fr:=Bool×List JV
noncomputable def names(k:Nat):List (List Int):=(List.range k).map fun j:Nat=>named (j:Int)
theorem wo(k:Nat):names (k+1)=names k++[named (k:Int)]:=by simp[names,List.range_succ]
theorem jR(k:Nat):(names k).length=k:=by simp[names]
noncomputable def items(f:Fr):List PV:=if f.1 then List.zipWith mem (names f.2.length) (jx f.2)else jx f.2
noncomputable def kindS(b:Bool):PV:=if b then .str "fields" else .str "row"
noncomputable def jk(f:Fr):OV:=.ol [.sh (kindS f.1),.ol ((items f).map .sh)]
noncomputable def gQ(f:Fr):JV:=if f.1 then .fld (names f.2.length) f.2 else .row f.2
theorem zU(f:Fr):enc (gQ f)=.tup [kindS f.1,.tup (items f)]:=by
 obtain⟨b,vs⟩:=f
 cases b<;>simp[gQ,enc,kindS,items]
theorem ve(b:Bool)(vs:List JV)(v:JV):items (b,vs++[v])=items (b,vs)++[if b then mem (named (vs.length:Int)) (enc v)else enc v]:=by
 cases b
 . simp[items,qA]
 . simp only[items,if_true,List.length_append,List.length_cons,List.length_nil,wo,qA,List.map_append,List.map_cons,List.map_nil];rw[List.zipWith_append (by rw[jR];simp)];rfl
theorem br(f:Fr):(items f).length=f.2.length:=by
 obtain⟨b,vs⟩:=f
 cases b<;>simp[items,kO,jR]
noncomputable def total(fs:List Fr):Nat:=(fs.map fun f=>1+dJ f.2).sum
theorem gF(fs:List Fr)(f:Fr):total (fs++[f])=total fs+(1+dJ f.2):=by simp[total]
theorem rZ(f:Fr):size (gQ f)=1+dJ f.2:=by
 obtain⟨b,vs⟩:=f
 cases b<;>simp[gQ,size]
theorem iS(b:Bool):bM (kindS b) (.str "row")=some (.sh (.bl (!b))):=by
 cases b<;>simp[kindS,bM]
mutual
noncomputable def Bt:JV->Prop
 |.lf x=>∃ n:Int,x=small n
 |.row vs=>Bts vs
 |.fld ns vs=>ns=names vs.length /\ Bts vs
noncomputable def Bts:List JV->Prop
 |[]=>True
 |v ::vs=>Bt v /\ Bts vs
end
theorem vx(vs ws:List JV):Bts (vs++ws)↔Bts vs /\ Bts ws:=by
 induction vs with
 |nil=>simp[Bts]
 |cons v vs ih=>show Bt v /\ Bts (vs++ws)↔(Bt v /\ Bts vs) /\ Bts ws;rw[ih];exact and_assoc.symm
theorem uo{vs:List JV}{v:JV}(h:Bts vs)(hv:Bt v):Bts (vs++[v]):=(vx vs [v]).mpr ⟨h,hv,trivial⟩
theorem wZ(f:Fr)(h:Bts f.2):Bt (gQ f):=by
 obtain⟨b,vs⟩:=f;cases b
 . exact h
 . exact⟨rfl,h⟩
structure rF(k:Nat)(fs:List Fr)(vh:PV):Prop where
 ok:∀ f∈fs,Bts f.2
 tot:total fs<=k
 fin:fs=[]->0<k->∃ v,vh=enc v /\ Bt v /\ size v<=k
theorem qo{α:Type}(l:List α)(h:l≠[]):∃ i x,l=i++[x]:=⟨l.dropLast,l.getLast h,(List.dropLast_concat_getLast h).symm⟩
theorem rQ(fs:List Fr):fs.length<=total fs:=by
 induction fs with
 |nil=>simp[total]
 | cons f fs ih=>
   have:total (f ::fs)=(1+dJ f.2)+total fs:=by simp[total]
   rw[this,List.length_cons];omega
end PJ
namespace L2.plainglass_k53_merged
open PySem L2.P PG
noncomputable def rl:ah -> OS:=
    (aR (bj (cx (ai 0))
    (bV (mOp eZ (ai 0) (mOp bX (ai 1) (mUn fq (ai 0)))))
    aY)
    (bV (mC (.int 0))))
noncomputable def gC:List PV->OE:=fnP 2 2 rl
noncomputable def pS:ah -> OS:=
    (bV (mOp bX (mOp eT (mOp sU (mOp gM (ai 2) (mC (.int 64))) (mC (.int 69621))) (ai 2)) (mC (.int 4294967231))))
noncomputable def pD:ah -> OS:=
    (aR (ba 2 (mOp bX (mOp sU (ai 2) (mC (.int 48271))) (mC (.int 4294967279))))
    pS)
noncomputable def sj:ah -> OS:=
    (aR (ba 2 (mOp bX (mOp eT (aH gC (ag (ai 0) (ag (ai 1) ax))) (mOp sU (mC (.int 104729)) (mOp eT (ai 1) (mC (.int 1))))) (mC (.int 4294967291))))
    pD)
noncomputable def bq:List PV->OE:=fnP 2 3 sj
noncomputable def lj:ah -> OS:=
    (aR (bj (aI (mOp gLt (ai 0) (mC (.int 6))))
    (bV (mOp eZ (dY (ag (bC ax) (ag (bC (ag (mC (.int 97)) ax)) (ag (bC (ag (mC (.int 97)) (ag (mC (.int 98)) ax))) (ag (bC (ag (mC (.int 126)) (ag (mC (.int 47)) ax))) (ag (bC (ag (mC (.int 48)) ax)) (ag (bC (ag (mC (.int 233)) ax)) ax))))))) (ai 0)))
    aY)
    (bV (bC (ag (mOp eT (mC (.int 98)) (ai 0)) ax))))
noncomputable def bH:List PV->OE:=fnP 1 1 lj
noncomputable def eG:ah -> OS:=
    (bj (dB (dW 0 bL) (aI (mOp bM (jH 0 (pIx 0 (pIx 0 bL (mUn j2 (mC (.int 1)))) (mC (.int 0)))) (mC (.str "row")))))
    (fZ 0 (pIx 0 (pIx 0 bL (mUn j2 (mC (.int 1)))) (mC (.int 1))) (mD (ai 1)))
    (bj (dW 0 bL)
    (fZ 0 (pIx 0 (pIx 0 bL (mUn j2 (mC (.int 1)))) (mC (.int 1))) (mD (bC (ag (aH bH (ag (pN 0 (pIx 0 (pIx 0 bL (mUn j2 (mC (.int 1)))) (mC (.int 1)))) ax)) (ag (ai 1) ax)))))
    aY))
noncomputable def bB:List Sl->OI:=fnI 2 2 eG
noncomputable def jX:ah -> OS:=
    (fA 2)
noncomputable def iA:ah -> OS:=
    (aR (gH (ef bB [.t 0 bL,.e (ai 2)]))
    jX)
noncomputable def iy:ah -> OS:=
    (aR (ba 2 (bC (ag (jH 1 (pIx 1 bL (mC (.int 0)))) (ag (mUn fE (jH 1 (pIx 1 bL (mC (.int 1))))) ax))))
    iA)
noncomputable def iT:ah -> OS:=
    (aR (jF 1 (qH 0 bL))
    iy)
noncomputable def dH:List Sl->OI:=fnI 1 3 iT
noncomputable def cE:ah -> OS:=
    (bV (mOp eZ (dY (ag (bC (ag (mC (.str "number")) (ag (mC (.int 0)) (ag (mC (.int 0)) ax)))) (ag (bC (ag (mC (.str "number")) (ag (mOp zR (mOp sU (mUn j2 (mC (.int 10))) (ai 2)) (mC (.int 3))) (ag (mC (.int 0)) ax)))) ax))) (mOp bX (ai 2) (mC (.int 2)))))
noncomputable def cB:ah -> OS:=
    (aR (bj (aI (mOp bM (ai 1) (mC (.int 4))))
    (bV (bC (ag (mC (.str "number")) (ag (mOp eT (mC (.int 1)) (mOp bX (ai 2) (mC (.int 9)))) (ag (mOp zR (mOp bX (mOp gM (ai 2) (mC (.int 9))) (mC (.int 5))) (mC (.int 2))) ax)))))
    aY)
    cE)
noncomputable def cD:ah -> OS:=
    (aR (bj (aI (mOp bM (ai 1) (mC (.int 3))))
    (bV (bC (ag (mC (.str "text")) (ag (mOp eZ (dY (ag (bC (ag (mC (.int 97)) ax)) (ag (bC (ag (mC (.int 34)) (ag (mC (.int 10)) ax))) (ag (bC ax) (ag (bC (ag (mC (.int 233)) (ag (mC (.int 128512)) ax))) ax))))) (mOp bX (ai 2) (mC (.int 4)))) ax))))
    aY)
    cB)
noncomputable def cz:ah -> OS:=
    (aR (bj (aI (mOp gLt (ai 1) (mC (.int 3))))
    (bV (mOp eZ (dY (ag (mC .non) (ag (mC (.bl true)) (ag (mC (.bl false)) ax)))) (ai 1)))
    aY)
    cD)
noncomputable def cA:ah -> OS:=
    (aR (ba 2 (mOp gM (ai 0) (mC (.int 6))))
    cz)
noncomputable def cZ:ah -> OS:=
    (aR (ba 1 (mOp bX (ai 0) (mC (.int 6))))
    cA)
noncomputable def bf:List PV->OE:=fnP 1 3 cZ
noncomputable def eS:ah -> OS:=
    (aR (ba 6 (aH bq (ag (ai 0) (ag (mOp eT (ai 1) (ai 5)) ax))))
    (bj (dB (dW 3 bL) (aI (mOp gEq (mOp bX (ai 6) (mC (.int 5))) (mC (.int 1)))))
    (jF 4 (ef dH [.t 3 bL]))
    (bj (jj (dW 3 bL) (aI (mOp gEq (ai 5) (mC (.int 0)))))
    (bj (jj (aI (mOp gGt (mOp bX (ai 6) (mC (.int 5))) (mC (.int 2)))) (dB (aI (mOp gEq (ai 5) (mC (.int 0)))) (aI (mOp gGt (mOp bX (ai 6) (mC (.int 9))) (mC (.int 0))))))
    (fZ 3 bL (mDl (mDc (mD (mOp eZ (dY (ag (mC (.str "row")) (ag (mC (.str "fields")) ax))) (mOp bX (mOp gM (ai 6) (mC (.int 5))) (mC (.int 2))))) (mDc (mD (dY ax)) mDn))))
    (aR (ba 4 (aH bf (ag (mOp gM (ai 6) (mC (.int 7))) ax)))
    (gH (ef bB [.t 3 bL,.e (ai 4)]))))
    aY)))
noncomputable def gi:ah -> OT:=
    (dW 3 bL)
noncomputable def jv:ah -> OS:=
    (jF 4 (ef dH [.t 3 bL]))
noncomputable def ja:ah -> OS:=
    (fA 4)
noncomputable def mM:ah -> OS:=
    (aR (gW gi
    jv fuel)
    ja)
noncomputable def mF:ah -> OS:=
    (aR (i9 5 (ai 2)
    eS)
    mM)
noncomputable def mH:ah -> OS:=
    (aR (ba 4 (mC .non))
    mF)
noncomputable def kX:ah -> OS:=
    (aR (pV 3 (mD (dY ax)))
    mH)
noncomputable def cm:List PV->OE:=fnP 3 7 kX
noncomputable def gN:ah -> OS:=
    (aR (bj (dB (cx (mIs "tuple" (ai 0))) (dB (aI (mOp gEq (mUn fq (ai 0)) (mC (.int 2)))) (aI (mOp gIn (mOp aN (ai 0) (mC (.int 0))) (bC (ag (mC (.str "row")) (ag (mC (.str "fields")) ax)))))))
    (bV (mOp aN (ai 0) (mC (.int 0))))
    aY)
    (bV (mC (.str ""))))
noncomputable def aO:List PV->OE:=fnP 1 1 gN
noncomputable def dS:ah -> OE:=
    (bC (ag (aH bH (ag (ai 1) ax)) (ag (mOp aN (mOp aN (ai 0) (mC (.int 1))) (ai 1)) ax)))
noncomputable def kS:ah -> OS:=
    (fA 3)
noncomputable def eY:ah -> OS:=
    (aR (bj (aI (mOp bM (aH aO (ag (ai 3) ax)) (mC (.str "row"))))
    (bV (bC (ag (mC (.str "fields")) (ag (mUn fE (nr (mUn fq (mOp aN (ai 3) (mC (.int 1)))) [3] dS)) ax))))
    aY)
    kS)
noncomputable def kl:ah -> OS:=
    (aR (ba 3 (aH cm (ag (ai 0) (ag (ai 1) (ag (ai 2) ax)))))
    eY)
noncomputable def b7:List PV->OE:=fnP 3 4 kl
noncomputable def pG:ah -> OS:=
    (bV (mOp aN (ai 0) (mC (.int 0))))
noncomputable def lR:ah -> OS:=
    (aR (bj (aI (mOp Ag (ai 0) (mC (.bl false))))
    (bV (mC (.str "false")))
    aY)
    pG)
noncomputable def i8:ah -> OS:=
    (aR (bj (aI (mOp Ag (ai 0) (mC (.bl true))))
    (bV (mC (.str "true")))
    aY)
    lR)
noncomputable def jB:ah -> OS:=
    (aR (bj (aI (mOp xK (ai 0) (mC .non)))
    (bV (mC (.str "null")))
    aY)
    i8)
noncomputable def dG:List PV->OE:=fnP 1 1 jB
noncomputable def cP:List PV->OD:=fnD 1 1 (x4 (aI (mOp bM (aH dG (ag (ai 0) ax)) (mC (.str "fields")))) (tV (mOp aN (ai 0) (mC (.int 1)))) Bb)
noncomputable def dM (rec:List PV -> OE):ah -> OS:=
    (bj (aI (mOp xK (ai 4) (mC .non)))
    (sZ 2 bL (ai 3))
    (tP 2 bL (ai 3) (aH rec (ag (pb 2 bL (ai 3)) (ag (ai 4) ax)))))
noncomputable def qP (rec:List PV -> OE):ah -> OS:=
    (bV (bC (ag (mC (.str "fields")) (ag (la 2 bL) ax))))
noncomputable def qM (rec:List PV -> OE):ah -> OS:=
    (aR (iP 3 4 (mOp aN (ai 1) (mC (.int 1)))
    (dM rec))
    (qP rec))
noncomputable def qu (rec:List PV -> OE):ah -> OS:=
    (aR (pV 2 (qE cP (ag (ai 0) ax)))
    (qM rec))
noncomputable def kT (rec:List PV -> OE):ah -> OS:=
    (aR (bj (aI (mOp jg (aH dG (ag (ai 1) ax)) (mC (.str "fields"))))
    (fA 1)
    aY)
    (qu rec))
noncomputable def eW:Nat->List PV->OE
 |0=>qV
 |k+1=>fnP 2 5 (kT (eW k))
noncomputable def iU:List PV->OE:=eW 70
noncomputable def cQ (rec:List PV -> OE):ah -> OS:=
    (aR (ba 1 (mOp eT (mOp gM (ai 1) (mC (.int 3))) (mC (.int 1))))
    (lZ 2 (bC (ag (ai 3) (ag (i5 (aI (mOp gEq (mOp bX (ai 1) (mC (.int 4))) (mC (.int 1)))) (mC .non) (aH rec (ag (ai 4) (ag (ai 1) ax)))) ax)))))
noncomputable def mW (rec:List PV -> OE):ah -> OS:=
    (bV (bC (ag (mC (.str "fields")) (ag (mUn fE (ai 2)) ax))))
noncomputable def mV (rec:List PV -> OE):ah -> OS:=
    (aR (iP 3 4 (mOp aN (ai 0) (mC (.int 1)))
    (cQ rec))
    (mW rec))
noncomputable def mR (rec:List PV -> OE):ah -> OS:=
    (aR (ba 2 (dY ax))
    (mV rec))
noncomputable def gO (rec:List PV -> OE):ah -> OS:=
    (aR (bj (aI (mOp jg (aH aO (ag (ai 0) ax)) (mC (.str "fields"))))
    (fA 0)
    aY)
    (mR rec))
noncomputable def cw:Nat->List PV->OE
 |0=>qV
 |k+1=>fnP 2 5 (gO (cw k))
noncomputable def fb:List PV->OE:=cw 70
noncomputable def cq:ah -> OS:=
    (aR (bj (iR (aI (sW gLe gLe (mC (.int 48)) (ai 2) (mC (.int 57)))))
    (bV (mUn j2 (mC (.int 1))))
    aY)
    (ba 1 (mOp zR (mOp eT (mOp sU (ai 1) (mC (.int 10))) (ai 2)) (mC (.int 48)))))
noncomputable def mS:ah -> OS:=
    (fA 1)
noncomputable def ji:ah -> OS:=
    (aR (gP 2 (ai 0)
    cq)
    mS)
noncomputable def ju:ah -> OS:=
    (aR (ba 1 (mC (.int 0)))
    ji)
noncomputable def eK:ah -> OS:=
    (aR (bj (jj (iR (cx (ai 0))) (dB (aI (mOp gGt (mUn fq (ai 0)) (mC (.int 1)))) (aI (mOp gEq (mOp aN (ai 0) (mC (.int 0))) (mC (.int 48))))))
    (bV (mUn j2 (mC (.int 1))))
    aY)
    ju)
noncomputable def cW:List PV->OE:=fnP 1 3 eK
noncomputable def dD:ah -> OS:=
    (bj (aI (mOp bM (mOp aN (mOp aN (mOp aN (ai 0) (mC (.int 1))) (ai 3)) (mC (.int 0))) (ai 1)))
    (fA 3)
    aY)
noncomputable def eR:ah -> OS:=
    (bV (mUn j2 (mC (.int 1))))
noncomputable def cu:ah -> OS:=
    (aR (bj (dB (aI (mOp bM (ai 2) (mC (.str "row")))) (aI (mOp gLt (aH cW (ag (ai 1) ax)) (mUn fq (mOp aN (ai 0) (mC (.int 1)))))))
    (bV (aH cW (ag (ai 1) ax)))
    aY)
    eR)
noncomputable def jh:ah -> OS:=
    (aR (bj (aI (mOp bM (ai 2) (mC (.str "fields"))))
    (i9 3 (mUn fq (mOp aN (ai 0) (mC (.int 1))))
    dD)
    aY)
    cu)
noncomputable def jm:ah -> OS:=
    (aR (bj (cx (mIs "tuple" (ai 0)))
    (ba 2 (mOp aN (ai 0) (mC (.int 0))))
    aY)
    jh)
noncomputable def fO:ah -> OS:=
    (aR (ba 2 (mC (.str "")))
    jm)
noncomputable def bp:List PV->OE:=fnP 2 4 fO
noncomputable def bw (rec:List PV -> OE):ah -> OS:=
    (aR (ba 5 (aH bp (ag (bC (ag (mC (.str "fields")) (ag (ai 2) ax))) (ag (ai 3) ax))))
    (bj (dB (aI (mOp xK (ai 4) (mC .non))) (aI (mOp gGe (ai 5) (mC (.int 0)))))
    (ba 2 (mOp bR (cY (ai 2) (mC .non) (gg (ai 5))) (cY (ai 2) (gg (mOp eT (ai 5) (mC (.int 1)))) (mC .non))))
    (bj (dB (aI (mOp uq (ai 4) (mC .non))) (aI (mOp gGe (ai 5) (mC (.int 0)))))
    (ba 2 (mOp bR (mOp bR (cY (ai 2) (mC .non) (gg (ai 5))) (bC (ag (bC (ag (ai 3) (ag (aH rec (ag (mOp aN (mOp aN (ai 2) (ai 5)) (mC (.int 1))) (ag (ai 4) ax))) ax))) ax))) (cY (ai 2) (gg (mOp eT (ai 5) (mC (.int 1)))) (mC .non))))
    (bj (aI (mOp uq (ai 4) (mC .non)))
    (ba 2 (mOp bR (ai 2) (bC (ag (bC (ag (ai 3) (ag (aH rec (ag (mC .non) (ag (ai 4) ax))) ax))) ax))))
    aY))))
noncomputable def kE (rec:List PV -> OE):ah -> OS:=
    (bV (bC (ag (mC (.str "fields")) (ag (ai 2) ax))))
noncomputable def lz (rec:List PV -> OE):ah -> OS:=
    (aR (iP 3 4 (mOp aN (ai 1) (mC (.int 1)))
    (bw rec))
    (kE rec))
noncomputable def kM (rec:List PV -> OE):ah -> OS:=
    (aR (ba 2 (i5 (aI (mOp bM (aH aO (ag (ai 0) ax)) (mC (.str "fields")))) (mOp aN (ai 0) (mC (.int 1))) (bC ax)))
    (lz rec))
noncomputable def gU (rec:List PV -> OE):ah -> OS:=
    (aR (bj (aI (mOp jg (aH aO (ag (ai 1) ax)) (mC (.str "fields"))))
    (fA 1)
    aY)
    (kM rec))
noncomputable def b5:Nat->List PV->OE
 |0=>qV
 |k+1=>fnP 2 6 (gU (b5 k))
noncomputable def fk:List PV->OE:=b5 70
noncomputable def bZ:ah -> OS:=
    (aR (ba 3 (aH bp (ag (ai 0) (ag (ai 2) ax))))
    (aR (bj (aI (mOp gLt (ai 3) (mC (.int 0))))
    (bV (dY ax))
    aY)
    (ba 0 (i5 (aI (mOp bM (mOp aN (ai 0) (mC (.int 0))) (mC (.str "row")))) (mOp aN (mOp aN (ai 0) (mC (.int 1))) (ai 3)) (mOp aN (mOp aN (mOp aN (ai 0) (mC (.int 1))) (ai 3)) (mC (.int 1)))))))
noncomputable def oX:ah -> OS:=
    (aR (gP 2 (ai 1)
    bZ)
    (bV (dY (ag (ai 0) ax))))
noncomputable def cL:List PV->OE:=fnP 2 4 oX
noncomputable def kj:ah -> OS:=
    (bV (bC (ag (mOp aN (ai 0) (mC (.int 0))) (ag (mOp bR (mOp bR (cY (mOp aN (ai 0) (mC (.int 1))) (mC .non) (gg (ai 3))) (bC (ag (ai 4) ax))) (cY (mOp aN (ai 0) (mC (.int 1))) (gg (mOp eT (ai 3) (mC (.int 1)))) (mC .non))) ax))))
noncomputable def kd:ah -> OS:=
    (aR (ba 4 (i5 (aI (mOp bM (mOp aN (ai 0) (mC (.int 0))) (mC (.str "row")))) (ai 2) (bC (ag (ai 1) (ag (ai 2) ax)))))
    kj)
noncomputable def m6:ah -> OS:=
    (aR (ba 3 (aH bp (ag (ai 0) (ag (ai 1) ax))))
    kd)
noncomputable def cM:List PV->OE:=fnP 3 5 m6
noncomputable def ku (rec:List PV -> OE):ah -> OS:=
    (bV (dY (ag (aH cM (ag (ai 0) (ag (mOp aN (ai 1) (mC (.int 0))) (ag (mOp eZ (ai 3) (mC (.int 0))) ax)))) ax)))
noncomputable def kz (rec:List PV -> OE):ah -> OS:=
    (aR (ba 3 (aH rec (ag (mOp eZ (aH cL (ag (ai 0) (ag (cY (ai 1) (mC .non) (gg (mC (.int 1)))) ax))) (mC (.int 0))) (ag (cY (ai 1) (gg (mC (.int 1))) (mC .non)) ax))))
    (ku rec))
noncomputable def cI (rec:List PV -> OE):ah -> OS:=
    (aR (bj (aI (mOp gEq (mUn fq (ai 1)) (mC (.int 1))))
    (aR (ba 2 (aH bp (ag (ai 0) (ag (mOp aN (ai 1) (mC (.int 0))) ax))))
    (bV (dY (ag (bC (ag (mOp aN (ai 0) (mC (.int 0))) (ag (mOp bR (cY (mOp aN (ai 0) (mC (.int 1))) (mC .non) (gg (ai 2))) (cY (mOp aN (ai 0) (mC (.int 1))) (gg (mOp eT (ai 2) (mC (.int 1)))) (mC .non))) ax))) ax))))
    aY)
    (kz rec))
noncomputable def eM (rec:List PV -> OE):ah -> OS:=
    (aR (bj (jj (iR (cx (ai 1))) (iR (cx (aH cL (ag (ai 0) (ag (ai 1) ax))))))
    (bV (dY ax))
    aY)
    (cI rec))
noncomputable def bD:Nat->List PV->OE
 |0=>qV
 |k+1=>fnP 2 4 (eM (bD k))
noncomputable def cS:List PV->OE:=bD 70
noncomputable def mK (rec:List PV -> OE):ah -> OS:=
    (bV (dY (ag (bC (ag (mC (.str "row")) (ag (mOp bR (mOp bR (cY (mOp aN (ai 0) (mC (.int 1))) (mC .non) (gg (ai 4))) (bC (ag (ai 2) ax))) (cY (mOp aN (ai 0) (mC (.int 1))) (gg (ai 4)) (mC .non))) ax))) ax)))
noncomputable def mO (rec:List PV -> OE):ah -> OS:=
    (aR (bj (iR (aI (sW gLe gLe (mC (.int 0)) (ai 4) (mUn fq (mOp aN (ai 0) (mC (.int 1)))))))
    (bV (dY ax))
    aY)
    (mK rec))
noncomputable def mI (rec:List PV -> OE):ah -> OS:=
    (aR (ba 4 (i5 (aI (mOp bM (mOp aN (ai 1) (mC (.int 0))) (bC (ag (mC (.int 45)) ax)))) (mUn fq (mOp aN (ai 0) (mC (.int 1)))) (aH cW (ag (mOp aN (ai 1) (mC (.int 0))) ax))))
    (mO rec))
noncomputable def fX (rec:List PV -> OE):ah -> OS:=
    (aR (bj (aI (mOp jg (ai 3) (mC (.str "row"))))
    (bV (dY ax))
    aY)
    (mI rec))
noncomputable def eN (rec:List PV -> OE):ah -> OS:=
    (aR (bj (aI (mOp bM (ai 3) (mC (.str "fields"))))
    (aR (bj (aI (mOp gGe (ai 4) (mC (.int 0))))
    (bV (dY (ag (aH cM (ag (ai 0) (ag (mOp aN (ai 1) (mC (.int 0))) (ag (ai 2) ax)))) ax)))
    aY)
    (bV (dY (ag (bC (ag (mC (.str "fields")) (ag (mOp bR (mOp aN (ai 0) (mC (.int 1))) (bC (ag (bC (ag (mOp aN (ai 1) (mC (.int 0))) (ag (ai 2) ax))) ax))) ax))) ax))))
    aY)
    (fX rec))
noncomputable def cR (rec:List PV -> OE):ah -> OS:=
    (aR (bj (aI (mOp gGt (mUn fq (ai 1)) (mC (.int 1))))
    (aR (bj (aI (mOp gLt (ai 4) (mC (.int 0))))
    (bV (dY ax))
    aY)
    (aR (ba 5 (aH rec (ag (mOp eZ (aH cL (ag (ai 0) (ag (cY (ai 1) (mC .non) (gg (mC (.int 1)))) ax))) (mC (.int 0))) (ag (cY (ai 1) (gg (mC (.int 1))) (mC .non)) (ag (ai 2) ax)))))
    (bV (i5 (cx (ai 5)) (dY (ag (aH cM (ag (ai 0) (ag (mOp aN (ai 1) (mC (.int 0))) (ag (mOp eZ (ai 5) (mC (.int 0))) ax)))) ax)) (dY ax)))))
    aY)
    (eN rec))
noncomputable def mJ (rec:List PV -> OE):ah -> OS:=
    (aR (ba 4 (aH bp (ag (ai 0) (ag (mOp aN (ai 1) (mC (.int 0))) ax))))
    (cR rec))
noncomputable def mG (rec:List PV -> OE):ah -> OS:=
    (aR (bj (cx (mIs "tuple" (ai 0)))
    (ba 3 (mOp aN (ai 0) (mC (.int 0))))
    aY)
    (mJ rec))
noncomputable def mP (rec:List PV -> OE):ah -> OS:=
    (aR (ba 3 (mC (.str "")))
    (mG rec))
noncomputable def iq (rec:List PV -> OE):ah -> OS:=
    (aR (bj (iR (cx (ai 1)))
    (bV (dY (ag (ai 2) ax)))
    aY)
    (mP rec))
noncomputable def bQ:Nat->List PV->OE
 |0=>qV
 |k+1=>fnP 3 6 (iq (bQ k))
noncomputable def dy:List PV->OE:=bQ 70
noncomputable def jM (rec:List PV -> OE):ah -> OS:=
    (bV (dY (ag (aH cM (ag (ai 0) (ag (mOp aN (ai 1) (mC (.int 0))) (ag (mOp eZ (ai 3) (mC (.int 0))) ax)))) ax)))
noncomputable def jL (rec:List PV -> OE):ah -> OS:=
    (aR (ba 3 (aH rec (ag (mOp eZ (aH cL (ag (ai 0) (ag (cY (ai 1) (mC .non) (gg (mC (.int 1)))) ax))) (mC (.int 0))) (ag (cY (ai 1) (gg (mC (.int 1))) (mC .non)) (ag (ai 2) ax)))))
    (jM rec))
noncomputable def fR (rec:List PV -> OE):ah -> OS:=
    (aR (bj (iR (cx (ai 1)))
    (bV (dY (ag (ai 2) ax)))
    aY)
    (jL rec))
noncomputable def dO (rec:List PV -> OE):ah -> OS:=
    (aR (bj (iR (cx (aH cL (ag (ai 0) (ag (ai 1) ax)))))
    (bV (dY ax))
    aY)
    (fR rec))
noncomputable def b8:Nat->List PV->OE
 |0=>qV
 |k+1=>fnP 3 4 (dO (b8 k))
noncomputable def dR:List PV->OE:=b8 70
noncomputable def fY (rec:List PV -> OE):ah -> OE:=
    (ai 2)
noncomputable def gf (rec:List PV -> OE):ah -> OT:=
    (aI (mOp oN (mOp aN (ai 2) (mC (.int 0))) (mOp aN (mOp aN (mOp aN (ai 0) (mC (.int 1))) (ai 1)) (mC (.int 0)))))
noncomputable def cU (rec:List PV -> OE):ah -> OS:=
    (bj (aI (mOp oN (ai 2) (mC (.str "row"))))
    (bj (iR (cx (aH rec (ag (mOp aN (mOp aN (ai 0) (mC (.int 1))) (ai 3)) (ag (mOp aN (mOp aN (ai 1) (mC (.int 1))) (ai 3)) ax)))))
    (bV (mC (.bl false)))
    aY)
    (aR (ba 4 (ly (mOp aN (ai 1) (mC (.int 1))) [0,3] (gf rec) (fY rec)))
    (bj (jj (aI (mOp gNe (mUn fq (ai 4)) (mC (.int 1)))) (iR (cx (aH rec (ag (mOp aN (mOp aN (mOp aN (ai 0) (mC (.int 1))) (ai 3)) (mC (.int 1))) (ag (mOp aN (mOp eZ (ai 4) (mC (.int 0))) (mC (.int 1))) ax))))))
    (bV (mC (.bl false)))
    aY)))
noncomputable def jf (rec:List PV -> OE):ah -> OS:=
    (bV (mC (.bl true)))
noncomputable def jl (rec:List PV -> OE):ah -> OS:=
    (aR (i9 3 (mUn fq (mOp aN (ai 0) (mC (.int 1))))
    (cU rec))
    (jf rec))
noncomputable def eL (rec:List PV -> OE):ah -> OS:=
    (aR (bj (aI (mOp gNe (mUn fq (mOp aN (ai 0) (mC (.int 1)))) (mUn fq (mOp aN (ai 1) (mC (.int 1))))))
    (bV (mC (.bl false)))
    aY)
    (jl rec))
noncomputable def dC (rec:List PV -> OE):ah -> OS:=
    (aR (bj (jj (aI (mOp oN (ai 2) (mC (.str "")))) (aI (mOp xW (ai 2) (aH aO (ag (ai 1) ax)))))
    (bV (xh (mOp oN (ai 0) (ai 1)) (mOp gEq (mIs "tuple" (ai 0)) (mIs "tuple" (ai 1)))))
    aY)
    (eL rec))
noncomputable def fc (rec:List PV -> OE):ah -> OS:=
    (aR (ba 2 (aH aO (ag (ai 0) ax)))
    (dC rec))
noncomputable def bP:Nat->List PV->OE
 |0=>qV
 |k+1=>fnP 2 5 (fc (bP k))
noncomputable def fF:List PV->OE:=bP 70
noncomputable def jW:ah -> OS:=
    (bV (i5 (cx (ai 3)) (aH dy (ag (mOp eZ (ai 3) (mC (.int 0))) (ag (mOp aN (ai 1) (mC (.int 2))) (ag (mOp eZ (ai 2) (mC (.int 0))) ax)))) (dY ax)))
noncomputable def iC:ah -> OS:=
    (aR (ba 3 (aH cS (ag (ai 0) (ag (mOp aN (ai 1) (mC (.int 1))) ax))))
    jW)
noncomputable def g6:ah -> OS:=
    (aR (bj (dB (aI (mOp gLt (mUn fq (mOp aN (ai 1) (mC (.int 1)))) (mUn fq (mOp aN (ai 1) (mC (.int 2)))))) (aI (mOp bM (cY (mOp aN (ai 1) (mC (.int 2))) (mC .non) (gg (mUn fq (mOp aN (ai 1) (mC (.int 1)))))) (mOp aN (ai 1) (mC (.int 1))))))
    (bV (dY ax))
    aY)
    iC)
noncomputable def kn:ah -> OS:=
    (aR (bj (aI (mOp bM (mOp aN (ai 1) (mC (.int 0))) (mC (.str "copy"))))
    (bV (aH dy (ag (ai 0) (ag (mOp aN (ai 1) (mC (.int 2))) (ag (mOp eZ (ai 2) (mC (.int 0))) ax)))))
    aY)
    g6)
noncomputable def g7:ah -> OS:=
    (aR (bj (aI (mOp bM (mOp aN (ai 1) (mC (.int 0))) (mC (.str "test"))))
    (bV (i5 (cx (aH fF (ag (mOp eZ (ai 2) (mC (.int 0))) (ag (mOp aN (ai 1) (mC (.int 2))) ax)))) (dY (ag (ai 0) ax)) (dY ax)))
    aY)
    kn)
noncomputable def eC:ah -> OS:=
    (aR (bj (iR (cx (ai 2)))
    (bV (dY ax))
    aY)
    g7)
noncomputable def eB:ah -> OS:=
    (aR (ba 2 (aH cL (ag (ai 0) (ag (mOp aN (ai 1) (mC (.int 1))) ax))))
    eC)
noncomputable def du:ah -> OS:=
    (aR (bj (aI (mOp bM (mOp aN (ai 1) (mC (.int 0))) (mC (.str "replace"))))
    (bV (aH dR (ag (ai 0) (ag (mOp aN (ai 1) (mC (.int 1))) (ag (mOp aN (ai 1) (mC (.int 2))) ax)))))
    aY)
    eB)
noncomputable def cT:ah -> OS:=
    (aR (bj (aI (mOp bM (mOp aN (ai 1) (mC (.int 0))) (mC (.str "remove"))))
    (bV (aH cS (ag (ai 0) (ag (mOp aN (ai 1) (mC (.int 1))) ax))))
    aY)
    du)
noncomputable def dI:ah -> OS:=
    (aR (bj (aI (mOp bM (mOp aN (ai 1) (mC (.int 0))) (mC (.str "add"))))
    (bV (aH dy (ag (ai 0) (ag (mOp aN (ai 1) (mC (.int 1))) (ag (mOp aN (ai 1) (mC (.int 2))) ax)))))
    aY)
    cT)
noncomputable def bN:List PV->OE:=fnP 2 4 dI
noncomputable def eI:ah -> OS:=
    (lZ 1 (bC (ag (mOp bR (ai 3) (bC (ag (mOp aN (ai 7) (mC (.int 0))) ax))) (ag (mOp aN (ai 7) (mC (.int 1))) ax))))
noncomputable def Al:ah -> OE:=
    (mUn xG (ai 0))
noncomputable def iF:ah -> OE:=
    (mUn xG (ai 0))
noncomputable def fV:ah -> OS:=
    (lZ 1 (bC (ag (mOp bR (ai 3) (bC (ag (mUn fE (sT (mUn q9 (ai 6)) [] iF)) ax))) (ag (mOp aN (mOp aN (ai 4) (mC (.int 1))) (ai 6)) ax))))
noncomputable def eH:ah -> OT:=
    (aI (mOp gLt (ai 2) (mUn fq (ai 1))))
noncomputable def fe:ah -> OS:=
    (aR (ba 3 (mOp aN (mOp eZ (ai 1) (ai 2)) (mC (.int 0))))
    (aR (ba 4 (mOp aN (mOp eZ (ai 1) (ai 2)) (mC (.int 1))))
    (aR (ba 5 (mC (.str "")))
    (aR (bj (cx (mIs "tuple" (ai 4)))
    (ba 5 (mOp aN (ai 4) (mC (.int 0))))
    aY)
    (aR (bj (aI (mOp bM (ai 5) (mC (.str "row"))))
    (i9 6 (mUn fq (mOp aN (ai 4) (mC (.int 1))))
    fV)
    aY)
    (aR (bj (aI (mOp bM (ai 5) (mC (.str "fields"))))
    (gP 7 (mOp aN (ai 4) (mC (.int 1)))
    eI)
    aY)
    (ba 2 (mOp eT (ai 2) (mC (.int 1))))))))))
noncomputable def ov:ah -> OS:=
    (fA 1)
noncomputable def oq:ah -> OS:=
    (aR (gW eH
    fe fuel)
    ov)
noncomputable def oF:ah -> OS:=
    (aR (ba 2 (mC (.int 0)))
    oq)
noncomputable def nh:ah -> OS:=
    (aR (ba 1 (dY (ag (bC (ag (bC ax) (ag (ai 0) ax))) ax)))
    oF)
noncomputable def gG:List PV->OE:=fnP 1 8 nh
noncomputable def fN (rec:List PV -> OE):ah -> OE:=
    (aH rec (ag (ai 1) (ag (mOp gM (ai 0) (mC (.int 3))) ax)))
noncomputable def fD (rec:List PV -> OE):ah -> OE:=
    (bC (ag (mOp aN (ai 1) (mC (.int 0))) (ag (aH rec (ag (mOp aN (ai 1) (mC (.int 1))) (ag (mOp gM (ai 0) (mC (.int 5))) ax))) ax)))
noncomputable def lb (rec:List PV -> OE):ah -> OS:=
    (bV (bC (ag (mC (.str "fields")) (ag (mUn fE (qC (ai 4) [1] (fD rec))) ax))))
noncomputable def ll (rec:List PV -> OE):ah -> OS:=
    (aR (ba 4 (mOp bR (cY (mOp aN (ai 0) (mC (.int 1))) (gg (ai 3)) (mC .non)) (cY (mOp aN (ai 0) (mC (.int 1))) (mC .non) (gg (ai 3)))))
    (lb rec))
noncomputable def kR (rec:List PV -> OE):ah -> OS:=
    (aR (ba 3 (mOp bX (ai 1) (mOp eT (mUn fq (mOp aN (ai 0) (mC (.int 1)))) (mC (.int 1)))))
    (ll rec))
noncomputable def i4 (rec:List PV -> OE):ah -> OS:=
    (aR (bj (aI (mOp bM (ai 2) (mC (.str "row"))))
    (bV (bC (ag (mC (.str "row")) (ag (mUn fE (qC (mOp aN (ai 0) (mC (.int 1))) [1] (fN rec))) ax))))
    aY)
    (kR rec))
noncomputable def fG (rec:List PV -> OE):ah -> OS:=
    (aR (bj (aI (mOp bM (ai 2) (mC (.str ""))))
    (fA 0)
    aY)
    (i4 rec))
noncomputable def fh (rec:List PV -> OE):ah -> OS:=
    (aR (ba 2 (aH aO (ag (ai 0) ax)))
    (fG rec))
noncomputable def bF:Nat->List PV->OE
 |0=>qV
 |k+1=>fnP 2 5 (fh (bF k))
noncomputable def fm:List PV->OE:=bF 70
noncomputable def jd:ah -> OS:=
    (bV (bC (ag (ai 8) (ag (ai 4) (ag (ai 5) ax)))))
noncomputable def fu:ah -> OS:=
    (aR (bj (aI (mOp bM (ai 8) (mC (.str "test"))))
    (aR (ba 10 (aH cL (ag (ai 2) (ag (ai 4) ax))))
    (aR (bj (dB (cx (ai 10)) (aI (mOp gGt (mOp bX (ai 6) (mC (.int 5))) (mC (.int 0)))))
    (ba 9 (aH fm (ag (mOp eZ (ai 10) (mC (.int 0))) (ag (ai 6) ax))))
    aY)
    (bV (bC (ag (ai 8) (ag (ai 4) (ag (ai 9) ax)))))))
    aY)
    jd)
noncomputable def eO:ah -> OS:=
    (aR (bj (aI (mOp bM (ai 8) (mC (.str "replace"))))
    (bV (bC (ag (ai 8) (ag (ai 4) (ag (ai 9) ax)))))
    aY)
    fu)
noncomputable def dF:ah -> OS:=
    (aR (bj (aI (mOp bM (ai 8) (mC (.str "remove"))))
    (bV (bC (ag (ai 8) (ag (ai 4) ax))))
    aY)
    eO)
noncomputable def cv:ah -> OS:=
    (aR (bj (aI (mOp bM (ai 8) (mC (.str "add"))))
    (bV (bC (ag (ai 8) (ag (ai 5) (ag (ai 9) ax)))))
    aY)
    dF)
noncomputable def om:ah -> OS:=
    (aR (ba 9 (aH cm (ag (ai 0) (ag (mOp eT (ai 1) (mC (.int 4))) (ag (mOp eT (mC (.int 1)) (mOp bX (aH bq (ag (ai 0) (ag (mOp eT (ai 1) (mC (.int 5))) ax))) (mC (.int 4)))) ax)))))
    cv)
noncomputable def oS:ah -> OS:=
    (aR (bj (dB (aI (mOp bM (ai 8) (mC (.str "move")))) (aI (mOp gEq (mOp bX (mOp gM (ai 6) (mC (.int 5))) (mC (.int 3))) (mC (.int 0)))))
    (ba 5 (mOp bR (ai 4) (bC (ag (aH bH (ag (mOp bX (mOp gM (ai 6) (mC (.int 15))) (mC (.int 8))) ax)) ax))))
    aY)
    om)
noncomputable def oo:ah -> OS:=
    (aR (ba 8 (mOp eZ (dY (ag (mC (.str "add")) (ag (mC (.str "remove")) (ag (mC (.str "replace")) (ag (mC (.str "move")) (ag (mC (.str "copy")) (ag (mC (.str "test")) ax))))))) (mOp bX (aH bq (ag (ai 0) (ag (mOp eT (ai 1) (mC (.int 3))) ax))) (mC (.int 6)))))
    oS)
noncomputable def nR:ah -> OS:=
    (aR (bj (aI (mOp gEq (mOp bX (ai 6) (mC (.int 3))) (mC (.int 0))))
    (ba 5 (mOp bR (ai 5) (mOp eZ (ai 7) (mOp bX (mOp gM (ai 6) (mC (.int 77))) (mC (.int 6))))))
    aY)
    oo)
noncomputable def nU:ah -> OS:=
    (aR (bj (aI (mOp gEq (mOp bX (ai 6) (mC (.int 7))) (mC (.int 0))))
    (ba 4 (mOp bR (ai 4) (mOp eZ (ai 7) (mOp bX (mOp gM (ai 6) (mC (.int 70))) (mC (.int 6))))))
    aY)
    nR)
noncomputable def nT:ah -> OS:=
    (aR (ba 7 (dY (ag (bC ax) (ag (bC (ag (bC (ag (mC (.int 48)) ax)) ax)) (ag (bC (ag (bC (ag (mC (.int 45)) ax)) ax)) (ag (bC (ag (aH bH (ag (mOp bX (mOp gM (ai 6) (mC (.int 7))) (mC (.int 8))) ax)) ax)) (ag (bC (ag (mUn fE (dY (ag (mOp eT (mC (.int 48)) (mOp bX (mOp gM (ai 6) (mC (.int 7))) (mC (.int 10)))) ax))) ax)) (ag (bC (ag (bC (ag (mC (.int 48)) (ag (mC (.int 48)) ax))) ax)) ax))))))))
    nU)
noncomputable def oh:ah -> OS:=
    (aR (ba 6 (aH bq (ag (ai 0) (ag (mOp eT (ai 1) (mC (.int 2))) ax))))
    nT)
noncomputable def oz:ah -> OS:=
    (aR (ba 5 (mOp aN (mOp eZ (ai 3) (mOp bX (aH bq (ag (ai 0) (ag (mOp eT (ai 1) (mC (.int 1))) ax))) (mUn fq (ai 3)))) (mC (.int 0))))
    oh)
noncomputable def oG:ah -> OS:=
    (aR (ba 4 (mOp aN (mOp eZ (ai 3) (mOp bX (aH bq (ag (ai 0) (ag (ai 1) ax))) (mUn fq (ai 3)))) (mC (.int 0))))
    oz)
noncomputable def ny:ah -> OS:=
    (aR (ba 3 (aH gG (ag (ai 2) ax)))
    oG)
noncomputable def gK:List PV->OE:=fnP 3 11 ny
noncomputable def fg (rec:List PV -> OE):ah -> OS:=
    (ba 2 (mOp eT (ai 2) (aH rec (ag (i5 (aI (mOp bM (ai 1) (mC (.str "row")))) (ai 3) (mOp aN (ai 3) (mC (.int 1)))) ax))))
noncomputable def iK (rec:List PV -> OE):ah -> OS:=
    (fA 2)
noncomputable def iG (rec:List PV -> OE):ah -> OS:=
    (aR (bj (aI (mOp jg (ai 1) (mC (.str ""))))
    (gP 3 (mOp aN (ai 0) (mC (.int 1)))
    (fg rec))
    aY)
    (iK rec))
noncomputable def iH (rec:List PV -> OE):ah -> OS:=
    (aR (ba 2 (mC (.int 1)))
    (iG rec))
noncomputable def iW (rec:List PV -> OE):ah -> OS:=
    (aR (ba 1 (aH aO (ag (ai 0) ax)))
    (iH rec))
noncomputable def cH:Nat->List PV->OE
 |0=>qV
 |k+1=>fnP 1 4 (iW (cH k))
noncomputable def gD:List PV->OE:=cH 140
noncomputable def fj (rec:List PV -> OE):ah -> OS:=
    (ba 2 (mOp yD (ai 2) (aH rec (ag (i5 (aI (mOp bM (ai 1) (mC (.str "row")))) (ai 3) (mOp aN (ai 3) (mC (.int 1)))) ax))))
noncomputable def oJ (rec:List PV -> OE):ah -> OS:=
    (bV (mOp eT (mC (.int 1)) (ai 2)))
noncomputable def nP (rec:List PV -> OE):ah -> OS:=
    (aR (gP 3 (mOp aN (ai 0) (mC (.int 1)))
    (fj rec))
    (oJ rec))
noncomputable def oM (rec:List PV -> OE):ah -> OS:=
    (aR (ba 2 (mC (.int 0)))
    (nP rec))
noncomputable def iz (rec:List PV -> OE):ah -> OS:=
    (aR (bj (aI (mOp bM (ai 1) (mC (.str ""))))
    (bV (mC (.int 0)))
    aY)
    (oM rec))
noncomputable def i1 (rec:List PV -> OE):ah -> OS:=
    (aR (ba 1 (aH aO (ag (ai 0) ax)))
    (iz rec))
noncomputable def cJ:Nat->List PV->OE
 |0=>qV
 |k+1=>fnP 1 4 (i1 (cJ k))
noncomputable def gB:List PV->OE:=cJ 140
noncomputable def m8:ah -> OS:=
    (bV (xh (mOp gLe (aH gD (ag (ai 0) ax)) (mC (.int 300))) (mOp gLe (aH gB (ag (ai 0) ax)) (mC (.int 64)))))
noncomputable def fH:List PV->OE:=fnP 1 1 m8
noncomputable def ki:ah -> OS:=
    (aR (ba 4 (aH bN (ag (ai 2) (ag (aH gK (ag (ai 0) (ag (mOp eT (mC (.int 24)) (mOp sU (mC (.int 8)) (ai 3))) (ag (ai 2) ax)))) ax))))
    (bj (dB (cx (ai 4)) (cx (aH fH (ag (mOp eZ (ai 4) (mC (.int 0))) ax))))
    (ba 2 (mOp eZ (ai 4) (mC (.int 0))))
    aY))
noncomputable def xi:ah -> OS:=
    (bV (mOp oN (ai 5) (aH fk (ag (ai 1) (ag (ai 2) ax)))))
noncomputable def qm:ah -> OS:=
    (aR (ba 5 (aH iU (ag (ai 1) (ag (ai 2) ax))))
    xi)
noncomputable def qb:ah -> OS:=
    (aR (bj (aI (mOp gEq (mOp bX (aH bq (ag (ai 0) (ag (mC (.int 60)) ax))) (mC (.int 2))) (mC (.int 0))))
    (aR (ba 2 (ai 1))
    (aR (i9 3 (mOp bX (aH bq (ag (ai 0) (ag (mC (.int 59)) ax))) (mC (.int 4)))
    ki)
    (ba 2 (aH fb (ag (ai 2) (ag (aH bq (ag (ai 0) (ag (mC (.int 58)) ax))) ax))))))
    aY)
    qm)
noncomputable def wL:ah -> OS:=
    (aR (ba 2 (aH b7 (ag (ai 0) (ag (mC (.int 12)) (ag (mOp eT (mC (.int 1)) (mOp bX (aH bq (ag (ai 0) (ag (mC (.int 61)) ax))) (mC (.int 10)))) ax)))))
    qb)
noncomputable def zC:ah -> OS:=
    (aR (ba 1 (aH b7 (ag (ai 0) (ag (mC (.int 0)) (ag (mOp eT (mC (.int 1)) (mOp bX (aH bq (ag (ai 0) (ag (mC (.int 62)) ax))) (mC (.int 10)))) ax)))))
    wL)
noncomputable def ua:List PV->OE:=fnP 1 6 zC
theorem kh(ns:List Int)(k:Int):gC [.lst (ns.map .int),.int k]=.ok (.sh (.int (PG.cell ns k))):=by
 unfold gC rl PG.cell
 cases ns with
 |nil=>simp
 | cons n r=>
   have hp:(0:Int)<(r.length:Int)+1:=by omega
   have hm:0<=k%((r.length:Int)+1):=Int.emod_nonneg _ (by omega)
   have hm2:k%((r.length:Int)+1)<(r.length:Int)+1:=Int.emod_lt_of_pos _ hp
   have hi:(k%((r.length:Int)+1)).toNat<(n ::r).length:=by rw[List.length_cons];omega
   have ha:atP (PV.int n ::r.map .int) (k%((r.length:Int)+1))=some (.int ((n ::r).getD (k%((r.length:Int)+1)).toNat 0)):=by
    rw[jU _ _ hm]
    have:(PV.int n ::r.map .int)=(n ::r).map .int:=rfl
    rw[this,List.getElem?_map,List.getElem?_eq_getElem hi,List.getD_eq_getElem?_getD,List.getElem?_eq_getElem hi];rfl
   simp[hp,ha]
theorem cC(ns:List Int)(k:Int):bq [.lst (ns.map .int),.int k]=.ok (.sh (.int (PG.mix ns k))):=by
 unfold PG.mix;simp[pS,pD,sj,bq,kh]
@[simp] theorem EA(xs:List PV):isP "tuple" (.tup xs)=some true:=rfl
noncomputable abbrev nmP(n:List Int):PV:=.tup (n.map .int)
noncomputable abbrev b0(vs:List PV):PV:=.tup [.str "row",.tup vs]
noncomputable abbrev bc(ps:DT):PV:=.tup [.str "fields",.tup (az ps)]
noncomputable def Gd(W:Nat):Nat->PV->Prop
 |0,v=>PJ.oB v
 |n+1,v=>PJ.oB v \/ (∃ vs,v=b0 vs /\ vs.length<=W /\ ∀ w∈vs,Gd W n w) \/ (∃ ps:DT,v=bc ps /\ ps.length<=W /\ (ps.map (·.1)).Nodup /\ ∀ p∈ps,Gd W n p.2)
theorem Gd.lf{W n:Nat}{v:PV}(h:PJ.oB v):Gd W n v:=by cases n with|zero=>exact h|succ n=>exact .inl h
theorem Gd.mono{W W':Nat}(hW:W<=W'):∀{n m:Nat} {v:PV},Gd W n v->n<=m->Gd W' m v:=by
 intro n
 induction n with
 |zero=>intro m v h _;exact Gd.lf h
 | succ n ih=>
   intro m v h hm
   obtain⟨m,rfl⟩:∃ k,m=k+1:=⟨m - 1,by omega⟩
   rcases h with h|⟨vs,rfl,hl,h⟩|⟨ps,rfl,hl,hn,h⟩
   . exact .inl h
   . exact .inr (.inl ⟨vs,rfl,by omega,fun w hw=>ih (h w hw) (by omega)⟩)
   . exact .inr (.inr ⟨ps,rfl,by omega,hn,fun w hw=>ih (h w hw) (by omega)⟩)
theorem Gd.cs{W n:Nat}{v:PV}(h:Gd W n v):PJ.oB v \/ (∃ m vs,n=m+1 /\ v=b0 vs /\ vs.length<=W /\ ∀ w∈vs,Gd W m w) \/ (∃ m,∃ ps:DT,n=m+1 /\ v=bc ps /\ ps.length<=W /\ (ps.map (·.1)).Nodup /\ ∀ p∈ps,Gd W m p.2):=by
 cases n with
 |zero=>exact .inl h
 | succ n=>
   rcases h with h|⟨vs,a,b,c⟩|⟨ps,a,b,c,d⟩
   . exact .inl h
   . exact .inr (.inl ⟨n,vs,rfl,a,b,c⟩)
   . exact .inr (.inr ⟨n,ps,rfl,a,b,c,d⟩)
theorem Gd.row{W n:Nat}{vs:List PV}(hl:vs.length<=W)(h:∀ w∈vs,Gd W n w):Gd W (n+1) (b0 vs):=.inr (.inl ⟨vs,rfl,hl,h⟩)
theorem Gd.fld{W n:Nat}{ps:DT}(hl:ps.length<=W)(hn:(ps.map (·.1)).Nodup)(h:∀ p∈ps,Gd W n p.2):Gd W (n+1) (bc ps):=.inr (.inr ⟨ps,rfl,hl,hn,h⟩)
theorem br(ps:DT):(az ps).length=ps.length:=by simp[az]
theorem ik(x:PV)(h:PJ.oB x):aO [x]=.ok (.sh (.str "")):=by
 rcases h with rfl|⟨b,rfl⟩|⟨a,p,rfl,_⟩|⟨cs,rfl,_⟩
 . simp[aO,gN,mIs,isP]
 . simp[aO,gN,mIs,isP]
 . simp[aO,gN]
 . simp[aO,gN,gIn,uj,g9]
theorem iS(vs:List PV):aO [b0 vs]=.ok (.sh (.str "row")):=by
 simp[aO,gN,gIn,uj,g9]
theorem oI(ps:DT):aO [bc ps]=.ok (.sh (.str "fields")):=by
 simp[aO,gN,gIn,uj,g9]
theorem jP(k:String)(xs:List PV):dG [.tup (.str (Str.ofString k) ::xs)]=.ok (.sh (.str (Str.ofString k))):=by
 simp[dG,jB,i8,lR,pG,fK,wd]
theorem o7(x:PV)(h:PJ.oB x):∃ k:String,dG [x]=.ok (.sh (.str (Str.ofString k))) /\ k ≠ "row" /\ k ≠ "fields":=by
 rcases h with rfl|⟨b,rfl⟩|⟨n,p,rfl,_⟩|⟨cs,rfl,_⟩
 . exact⟨"null",by simp[dG,jB,fK],by decide,by decide⟩
 . cases b
   . exact⟨"false",by simp[dG,jB,i8,lR,fK,wd],by decide,by decide⟩
   . exact⟨"true",by simp[dG,jB,i8,fK,wd],by decide,by decide⟩
 . exact⟨"number",jP "number" _,by decide,by decide⟩
 . exact⟨"text",jP "text" _,by decide,by decide⟩
theorem yr(a b:List Int):bM (.tup (a.map .int)) (.tup (b.map .int))=some (.sh (.bl (decide (a=b)))):=by
 simp[bM,bK,ic,bI,rp]
theorem v8(a:Option Sl)(cs:List Int):∀(n:Int) (c:Option Sl),0<=n ->
  (∃ ρ,cG 2 cq (cs.map .int) [a,some (.sh (.int n)),c]=.rt ρ (.sh (.int (-1)))) \/ (∃ m c',0<=m /\ cG 2 cq (cs.map .int) [a,some (.sh (.int n)),c]=.nx [a,some (.sh (.int m)),c']):=by
 induction cs with
 |nil=>intro n c h;exact .inr ⟨n,c,h,rfl⟩
 | cons x cs ih=>
   intro n c h
   by_cases h1:48<=x /\ x<=57
   . have hb:cq ([a,some (.sh (.int n)),c].set 2 (some (.sh (.int x)))) = .nx [a,some (.sh (.int (n * 10 + x - 48))),some (.sh (.int x))]:=by
      simp[cq,h1.1,h1.2]
     rw[List.map_cons,gc hb];exact ih _ _ (by omega)
   . refine .inl ⟨[a,some (.sh (.int n)),some (.sh (.int x))],?_⟩
     have hb:cq ([a,some (.sh (.int n)),c].set 2 (some (.sh (.int x))))=.rt [a,some (.sh (.int n)),some (.sh (.int x))] (.sh (.int (-1))):=by
      by_cases h2:48<=x
      . have h3:¬ x<=57:=fun z=>h1 ⟨h2,z⟩
        simp[cq,h2,h3]
      . simp[cq,h2]
     rw[List.map_cons,ib,hb];rfl
theorem w9(p:List Int):∃ i:Int,cW [nmP p]=.ok (.sh (.int i)) /\ (i=-1 \/ 0<=i):=by
 cases p with
 |nil=>exact⟨-1,by simp[cW,eK],.inl rfl⟩
 | cons c cs=>
   by_cases h0:cs≠[] /\ c=48
   . obtain⟨h1,rfl⟩:=h0
     obtain⟨d,ds,rfl⟩:∃ d ds,cs=d ::ds:=by cases cs with|nil=>exact absurd rfl h1|cons d ds=>exact⟨d,ds,rfl⟩
     have hgt:(1:Int)<(ds.length:Int)+1+1:=by omega
     exact⟨-1,by simp[cW,eK,hgt],.inl rfl⟩
   . have hc:bj (jj (iR (cx (ai 0))) (dB (aI (mOp gGt (mUn fq (ai 0)) (mC (.int 1)))) (aI (mOp gEq (mOp aN (ai 0) (mC (.int 0))) (mC (.int 48)))))) (bV (mUn j2 (mC (.int 1)))) aY [some (.sh (nmP (c ::cs))),none,none] = .nx [some (.sh (nmP (c ::cs))),none,none]:=by
      by_cases h1:cs=[]
      . subst h1;simp
      . have h2:¬ c=48:=fun z=>h0 ⟨h1,z⟩
        by_cases h3:(1:Int)<(cs.length:Int)+1<;>simp[h2,h3]
     have hs:ba 1 (mC (.int 0)) [some (.sh (nmP (c ::cs))),none,none]=.nx [some (.sh (nmP (c ::cs))),some (.sh (.int 0)),none]:=by simp
     have hf:gP 2 (ai 0) cq [some (.sh (nmP (c ::cs))),some (.sh (.int 0)),none]=cG 2 cq ((c ::cs).map .int) [some (.sh (nmP (c ::cs))),some (.sh (.int 0)),none]:=by
      simp only[gP,vp,List.getElem?_cons_zero];rfl
     rcases v8 (some (.sh (nmP (c ::cs)))) (c ::cs) 0 none (by omega)with⟨ρ,h⟩|⟨m,c',hm,h⟩
     . refine⟨-1,?_,.inl rfl⟩
       have:eK [some (.sh (nmP (c ::cs))),none,none]=.rt ρ (.sh (.int (-1))):=by
        unfold eK;rw[aS hc];unfold ju;rw[aS hs];unfold ji;rw[q8 (hf.trans h)]
       show fin (eK [some (.sh (nmP (c ::cs))),none,none])=_;rw[this];rfl
     . refine⟨m,?_,.inr hm⟩
       have:eK [some (.sh (nmP (c ::cs))),none,none]=.rt [some (.sh (nmP (c ::cs))),some (.sh (.int m)),c'] (.sh (.int m)):=by
        unfold eK;rw[aS hc];unfold ju;rw[aS hs];unfold ji;rw[aS (hf.trans h)];simp[mS]
       show fin (eK [some (.sh (nmP (c ::cs))),none,none])=_;rw[this];rfl
theorem og{ρ:ah}{i:Nat}{me:ah->OE}{P:ah->OS}{j:Int}(h1:me ρ=.ok (.sh (.int j)))(hi:-4611686018427387904<=j /\ j<4611686018427387904):i9 i me P ρ=cG i P (cO j.toNat) ρ:=by
 simp -implicitDefEqProofs [i9,h1,hi]
theorem su(n:Nat):cO n=(List.range' 0 n).map fun k:Nat=>.int k:=by simp[cO,List.range_eq_range']
noncomputable def fI(q:List Int):DT->Option Nat
 |[]=>none
 |p ::ps=>if p.1=q then some 0 else(fI q ps).map (·+1)
theorem qX(ps:DT)(j:Nat)(p:List Int×PV)(h:ps[j]?=some p):atP (az ps) (j:Int)=some (.tup [nmP p.1,p.2]):=by
 rw[jU _ _ (by omega),Int.toNat_natCast];simp[az,h]
theorem index_loop(q:List Int)(ps:DT)(k:Option Sl):∀(post pre:DT) (d:Option Sl),pre++post=ps ->
  (∃ j ρ,fI q post=some j /\ cG 3 dD ((List.range' pre.length post.length).map fun k:Nat=>.int k) [some (.sh (bc ps)),some (.sh (nmP q)),k,d]=.rt ρ (.sh (.int ((pre.length+j:Nat):Int)))) \/
  (fI q post=none /\ ∃ d',cG 3 dD ((List.range' pre.length post.length).map fun k:Nat=>.int k) [some (.sh (bc ps)),some (.sh (nmP q)),k,d]=.nx [some (.sh (bc ps)),some (.sh (nmP q)),k,d'])
 |[],pre,d,_=>.inr ⟨rfl,d,rfl⟩
 | p ::post,pre,d,h=>by
   have hat:atP (az ps) (pre.length:Int)=some (.tup [nmP p.1,p.2]):=qX ps _ p (by rw[<- h];simp)
   have hq:=yr p.1 q;rw[List.length_cons,List.range'_succ,List.map_cons]
   by_cases hn:p.1=q
   . refine .inl ⟨0,[some (.sh (bc ps)),some (.sh (nmP q)),k,some (.sh (.int pre.length))],by simp[fI,hn],?_⟩;rw[decide_eq_true hn]at hq
     have hb:dD ([some (.sh (bc ps)),some (.sh (nmP q)),k,d].set 3 (some (.sh (.int pre.length))))=.rt [some (.sh (bc ps)),some (.sh (nmP q)),k,some (.sh (.int pre.length))] (.sh (.int pre.length)):=by
      simp[dD,hat,hq]
     rw[ib,hb];rfl
   . rw[decide_eq_false hn]at hq
     have hb:dD ([some (.sh (bc ps)),some (.sh (nmP q)),k,d].set 3 (some (.sh (.int pre.length))))=.nx [some (.sh (bc ps)),some (.sh (nmP q)),k,some (.sh (.int pre.length))]:=by
      simp[dD,hat,hq]
     rw[gc hb];have ih:=index_loop q ps k post (pre++[p]) (some (.sh (.int pre.length))) (by simp[h]);rw[show(pre++[p]).length=pre.length+1 by simp]at ih
     rcases ih with⟨j,ρ,e1,e2⟩|⟨e1,d',e2⟩
     . refine .inl ⟨j+1,ρ,by simp[fI,hn,e1],?_⟩;rw[e2]
       congr 4
       omega
     . exact .inr ⟨by simp[fI,hn,e1],d',e2⟩
noncomputable def fII(q:List Int)(ps:DT):Int:=match fI q ps with|some j=>(j:Int)|none=>-1
theorem pe(ps:DT)(hl:ps.length<=1000000)(q:List Int):bp [bc ps,nmP q]=.ok (.sh (.int (fII q ps))):=by
 have h1:(mUn fq (mOp aN (ai 0) (mC (.int 1)))) [some (.sh (bc ps)),some (.sh (nmP q)),some (.sh (.str "fields")),none]=.ok (.sh (.int (ps.length:Int))):=by simp[br]
 have h2:fO [some (.sh (bc ps)),some (.sh (nmP q)),none,none]=(cG 3 dD ((List.range' 0 ps.length).map fun k:Nat=>.int k) [some (.sh (bc ps)),some (.sh (nmP q)),some (.sh (.str "fields")),none]).andThen cu:=by
  unfold fO jm jh;rw[aS (ρ':=[some (.sh (bc ps)),some (.sh (nmP q)),some (.sh (.str "")),none]) (by simp),aS (ρ':=[some (.sh (bc ps)),some (.sh (nmP q)),some (.sh (.str "fields")),none]) (by simp[mIs]),mX,pZ (by simp[bM,bK,bI]),og h1 (by omega),Int.toNat_natCast,su]
 have h3:∃ ρ,fO [some (.sh (bc ps)),some (.sh (nmP q)),none,none]=.rt ρ (.sh (.int (fII q ps))):=by
  rw[h2]
  rcases index_loop q ps (some (.sh (.str "fields"))) ps [] none rfl with⟨j,ρ,e1,e2⟩|⟨e1,d',e2⟩
  . simp only[List.length_nil,Nat.zero_add]at e2
    exact⟨ρ,by rw[e2,wB];simp[fII,e1]⟩
  . simp only[List.length_nil]at e2
    refine⟨[some (.sh (bc ps)),some (.sh (nmP q)),some (.sh (.str "fields")),d'],?_⟩
    rw[e2,j4];simp[cu,eR,bM,bK,bI,fII,e1]
 obtain⟨ρ,h3⟩:=h3;show fin (fO [some (.sh (bc ps)),some (.sh (nmP q)),none,none])=_;rw[h3];rfl
theorem kI(v:PV)(q:List Int)(k:String)(h1:bj (cx (mIs "tuple" (ai 0))) (ba 2 (mOp aN (ai 0) (mC (.int 0)))) aY [some (.sh v),some (.sh (nmP q)),some (.sh (.str "")),none]=.nx [some (.sh v),some (.sh (nmP q)),some (.sh (.str (Str.ofString k))),none])(h2:k ≠ "fields"):
  bp [v,nmP q]=fin (cu [some (.sh v),some (.sh (nmP q)),some (.sh (.str (Str.ofString k))),none]):=by
 show fin (fO [some (.sh v),some (.sh (nmP q)),none,none])=_;unfold fO jm jh;rw[aS (ρ':=[some (.sh v),some (.sh (nmP q)),some (.sh (.str "")),none]) (by simp),aS h1,sk (by simp[bM,bK,bI,h2])]
theorem sv(vs:List PV)(q:List Int):∃ i:Int,bp [b0 vs,nmP q]=.ok (.sh (.int i)) /\ (i=-1 \/ (0<=i /\ i<vs.length)):=by
 obtain⟨i,hi,h⟩:=w9 q;have h0:=kI (b0 vs) q "row" (by simp[mIs]) (by decide)
 by_cases hlt:i<(vs.length:Int)
 . refine⟨i,by rw[h0];simp[cu,bM,bK,bI,hi,hlt],?_⟩
   rcases h with h|h
   . exact .inl h
   . exact .inr ⟨h,hlt⟩
 . exact⟨-1,by rw[h0];simp[cu,eR,bM,bK,bI,hi,hlt],.inl rfl⟩
theorem lh(v:PV)(h:PJ.oB v)(q:List Int):bp [v,nmP q]=.ok (.sh (.int (-1))):=by
 rcases h with rfl|⟨b,rfl⟩|⟨a,p,rfl,_⟩|⟨cs,rfl,_⟩
 . rw[kI _ q "" (by simp[mIs,isP]) (by decide)];simp[cu,eR,bM,bK,bI]
 . rw[kI _ q "" (by simp[mIs,isP]) (by decide)];simp[cu,eR,bM,bK,bI]
 . rw[kI _ q "number" (by simp[mIs]) (by decide)];simp[cu,eR,bM,bK,bI]
 . rw[kI _ q "text" (by simp[mIs]) (by decide)];simp[cu,eR,bM,bK,bI]
theorem nN(q:List Int):∀(ps:DT) (j:Nat),fI q ps=some j->∃ pre w post,ps=pre++(q,w) ::post /\ j=pre.length /\ q∉pre.map (·.1)
 |[],_,h=>by cases h
 | p ::ps,j,h=>by
   unfold fI at h;split at h
   . rename_i hp;cases h
     exact⟨[],p.2,ps,by rw[<- hp];rfl,rfl,by simp⟩
   . rename_i hp
     cases e:fI q ps with
     |none=>rw[e]at h;cases h
     | some i=>
       rw[e]at h;cases h;obtain⟨pre,w,post,rfl,rfl,hn⟩:=nN q ps i e
       exact⟨p ::pre,w,post,rfl,rfl,by simp only[List.map_cons,List.mem_cons,not_or];exact⟨fun z=>hp z.symm,hn⟩⟩
theorem qe(q:List Int):∀(ps:DT),fI q ps=none->q∉ps.map (·.1)
 |[],_=>by simp
 | p ::ps,h=>by
   unfold fI at h;split at h
   . cases h
   . rename_i hp;have:=qe q ps (by simpa using h);simp only[List.map_cons,List.mem_cons,not_or]
     exact⟨fun z=>hp z.symm,this⟩
inductive Ch(q:List Int)(w:PV):PV->Prop
 |row (pre post:List PV) (h:bp [b0 (pre++w ::post),nmP q]=.ok (.sh (.int (pre.length:Nat)))):Ch q w (b0 (pre++w ::post))
 |fld (pre post:DT) (h:bp [bc (pre++(q,w) ::post),nmP q]=.ok (.sh (.int (pre.length:Nat)))):Ch q w (bc (pre++(q,w) ::post))
theorem Ch.ix{q:List Int}{w v:PV}(h:Ch q w v):∃ j:Nat,bp [v,nmP q]=.ok (.sh (.int j)):=by cases h with|row _ _ h=>exact⟨_,h⟩|fld _ _ h=>exact⟨_,h⟩
theorem AD{xs ys:List PV}(h:b0 xs=b0 ys):xs=ys:=by injection h with h;injection h with _ h;injection h with h;injection h
theorem xQ{xs ys:DT}(h:az xs=az ys):xs=ys:=by
 have hi:∀ a b:List Int,a.map PV.int=b.map PV.int->a=b:=fun a=>by
  induction a with
  |nil=>intro b h;cases b with|nil=>rfl|cons _ _=>cases h
  |cons x a ih=>intro b h;cases b with|nil=>cases h|cons y b=>injection h with h1 h2;injection h1 with h1;rw[h1,ih b h2]
 revert ys
 induction xs with
 |nil=>intro ys h;cases ys with|nil=>rfl|cons _ _=>cases h
 | cons x xs ih=>
   intro ys h
   cases ys with
   |nil=>cases h
   | cons y ys=>
     have h':(PV.tup [.tup (x.1.map .int),x.2]) ::az xs=(PV.tup [.tup (y.1.map .int),y.2]) ::az ys:=h
     injection h' with h1 h2
     injection h1 with h1
     injection h1 with h1 h3
     injection h1 with h1
     injection h3 with h3
     rw[ih h2,show x=y from Prod.ext (hi _ _ h1) h3]
theorem Ap{xs ys:DT}(h:bc xs=bc ys):xs=ys:=by injection h with h;injection h with _ h;injection h with h;injection h with h;exact xQ h
theorem xq{xs:List PV}{ys:DT}(h:b0 xs=bc ys):False:=by
 injection h with h
 injection h with h _
 injection h with h
 exact absurd h (by decide)
theorem vo{xs:List PV}(h:PJ.oB (b0 xs)):False:=by
 rcases h with h|⟨b,h⟩|⟨a,p,h,_⟩|⟨cs,h,_⟩
 . cases h
 . cases h
 . injection h with h;injection h with _ h;injection h with _ h;cases h
 . injection h with h;injection h with h _;injection h with h;exact absurd h (by decide)
theorem vD{xs:DT}(h:PJ.oB (bc xs)):False:=by
 rcases h with h|⟨b,h⟩|⟨a,p,h,_⟩|⟨cs,h,_⟩
 . cases h
 . cases h
 . injection h with h;injection h with _ h;injection h with _ h;cases h
 . injection h with h;injection h with h _;injection h with h;exact absurd h (by decide)
theorem Gd.Bp{W n:Nat}{vs:List PV}(h:Gd W (n+1) (b0 vs)):vs.length<=W /\ ∀ w∈vs,Gd W n w:=by
 rcases h with h|⟨us,e,a,b⟩|⟨ps,e,_⟩
 . exact(vo h).elim
 . cases AD e;exact⟨a,b⟩
 . exact(xq e).elim
theorem Gd.AY{W n:Nat}{ps:DT}(h:Gd W (n+1) (bc ps)):ps.length<=W /\ (ps.map (·.1)).Nodup /\ ∀ p∈ps,Gd W n p.2:=by
 rcases h with h|⟨us,e,a,b⟩|⟨qs,e,a⟩
 . exact(vD h).elim
 . exact(xq e.symm).elim
 . cases Ap e;exact a
theorem CG{W n:Nat}{v:PV}(hW:W<=1000)(g:Gd W n v)(q:List Int):bp [v,nmP q]=.ok (.sh (.int (-1))) \/ ∃ w m,n=m+1 /\ Ch q w v /\ Gd W m w:=by
 rcases g.cs with h|⟨m,vs,rfl,rfl,hl,h⟩|⟨m,ps,rfl,rfl,hl,hn,h⟩
 . exact .inl (lh v h q)
 . obtain⟨i,e,h1|⟨h1,h2⟩⟩:=sv vs q
   . subst h1;exact .inl e
   . obtain⟨j,rfl⟩:∃ j:Nat,i=j:=⟨i.toNat,by omega⟩
     have hj:j<vs.length:=by omega
     have hd:vs=vs.take j++vs[j] ::vs.drop (j+1):=by rw[List.getElem_cons_drop,List.take_append_drop]
     have ht:(vs.take j).length=j:=by rw[List.length_take];omega
     have hm:=h _ (List.getElem_mem hj);generalize vs[j]=w at hd hm;refine .inr ⟨w,m,rfl,?_,hm⟩
     rw[hd]at e ⊢
     exact .row _ _ (by rw[ht];exact e)
 . have e:=pe ps (by omega) q;unfold fII at e
   cases hf:fI q ps with
   |none=>rw[hf]at e;exact .inl e
   | some j=>
     rw[hf]at e;obtain⟨pre,w,post,rfl,rfl,_⟩:=nN q ps j hf;exact .inr ⟨w,m,rfl,.fld pre post e,h (q,w) (by simp)⟩
theorem o5(pre:List PV)(w:PV)(post:List PV):jt (pre++w ::post) none (some ((pre.length:Nat):Int))=pre:=by
 have h:kD (pre++w ::post).length (pre++w ::post).length (some ((pre.length:Nat):Int))=pre.length:=by
  simp only[kD,List.length_append,List.length_cons];split<;>omega
 unfold jt;rw[h];simp[kD]
theorem oV(pre:List PV)(w:PV)(post:List PV):jt (pre++w ::post) (some (((pre.length:Nat):Int)+1)) none=post:=by
 have h:kD (pre++w ::post).length 0 (some (((pre.length:Nat):Int)+1))=pre.length+1:=by
  simp only[kD,List.length_append,List.length_cons];split<;>omega
 unfold jt;rw[h];simp[kD];rw[List.take_of_length_le (by omega)]
theorem ez(a b:DT):az (a++b)=az a++az b:=by simp[az]
theorem dU(p:List Int×PV)(b:DT):az (p ::b)=.tup [nmP p.1,p.2] ::az b:=rfl
theorem aG{n:Nat}(h:n<=100000):n<=lim:=DL (by omega)
theorem zL(pre:List PV)(w:PV)(post:List PV):atP (pre++w ::post) ((pre.length:Nat):Int)=some w:=by
 rw[jU _ _ (by omega),Int.toNat_natCast];simp
theorem ze(q:List Int)(w new:PV)(pre post:List PV)(hl:(pre++w ::post).length<=1000)(h:bp [b0 (pre++w ::post),nmP q]=.ok (.sh (.int (pre.length:Nat)))):cM [b0 (pre++w ::post),nmP q,new]=.ok (.sh (b0 (pre++new ::post))):=by
 have h1:=o5 pre w post;have h2:=oV pre w post
 have l1:pre.length+1<=lim:=aG (by simp at hl;omega)
 have l2:pre.length+1+post.length<=lim:=aG (by simp at hl;omega)
 have l3:1<=lim:=aG (by omega)
 have l4:2<=lim:=aG (by omega)
 simp -implicitDefEqProofs [cM,m6,kd,kj,h,bM,bK,bI,cY,nH,h1,h2,bR,l1,l2,l3,l4]
theorem zf(q:List Int)(w new:PV)(pre post:DT)(hl:(pre++(q,w) ::post).length<=1000)(h:bp [bc (pre++(q,w) ::post),nmP q]=.ok (.sh (.int (pre.length:Nat)))):cM [bc (pre++(q,w) ::post),nmP q,new]=.ok (.sh (bc (pre++(q,new) ::post))):=by
 rw[show bc (pre++(q,w) ::post)=.tup [.str "fields",.tup (az pre ++ .tup [nmP q,w] ::az post)] by simp[bc,ez,dU]]at h ⊢
 rw[show bc (pre++(q,new) ::post)=.tup [.str "fields",.tup (az pre ++ .tup [nmP q,new] ::az post)] by simp[bc,ez,dU]];have e:=br pre;have e2:=br post;have h1:=o5 (az pre) (.tup [nmP q,w]) (az post);have h2:=oV (az pre) (.tup [nmP q,w]) (az post);rw[e]at h1 h2
 have l1:pre.length+1<=lim:=aG (by simp at hl;omega)
 have l2:pre.length+1+post.length<=lim:=aG (by simp at hl;omega)
 have l3:1<=lim:=aG (by omega)
 have l4:2<=lim:=aG (by omega)
 simp -implicitDefEqProofs [cM,m6,kd,kj,h,bM,bK,bI,cY,nH,h1,h2,bR,l1,l2,l3,l4,e,e2]
theorem Ch.put{W m b:Nat}{q:List Int}{w v new:PV}(hW:W<=1000)(c:Ch q w v)(g:Gd W (m+1) v)(gn:Gd W b new)(hb:m<=b):∃ u,cM [v,nmP q,new]=.ok (.sh u) /\ Gd W (b+1) u:=by
 cases c with
 | row pre post h=>
   obtain⟨hl,ha⟩:=g.Bp
   refine⟨_,ze q w new pre post (by omega) h,.row (by simp at hl ⊢;omega) fun x hx=>?_⟩
   rcases List.mem_append.mp hx with z|z
   . exact(ha x (by simp[z])).mono (Nat.le_refl _) hb
   . rcases List.mem_cons.mp z with z|z
     . subst z;exact gn
     . exact(ha x (by simp[z])).mono (Nat.le_refl _) hb
 | fld pre post h=>
   obtain⟨hl,hn,ha⟩:=g.AY
   refine⟨_,zf q w new pre post (by omega) h,.fld (by simp at hl ⊢;omega) (by simpa using hn) fun x hx=>?_⟩
   rcases List.mem_append.mp hx with z|z
   . exact(ha x (by simp[z])).mono (Nat.le_refl _) hb
   . rcases List.mem_cons.mp z with z|z
     . subst z;exact gn
     . exact(ha x (by simp[z])).mono (Nat.le_refl _) hb
inductive Got:List (List Int)->PV->Option PV->Prop
 |nil (v:PV):Got [] v (some v)
 |no {q:List Int} {qs:List (List Int)} {v:PV} (h:bp [v,nmP q]=.ok (.sh (.int (-1)))):Got (q ::qs) v none
 |step {q:List Int} {qs:List (List Int)} {v w:PV} {r:Option PV} (h:Ch q w v) (g:Got qs w r):Got (q ::qs) v r
theorem t6{W:Nat}(hW:W<=1000):∀(qs:List (List Int)) (n:Nat) (v:PV),Gd W n v->∃ r,Got qs v r /\ ∀ w,r=some w->Gd W n w
 |[],n,v,g=>⟨some v,.nil v,fun w h=>by cases h;exact g⟩
 | q ::qs,n,v,g=>by
   rcases CG hW g q with h|⟨w,m,rfl,c,gw⟩
   . exact⟨none,.no h,fun w h=>by cases h⟩
   . obtain⟨r,h1,h2⟩:=t6 hW qs m w gw
     exact⟨r,.step c h1,fun u hu=>(h2 u hu).mono (Nat.le_refl _) (by omega)⟩
noncomputable abbrev tps(qs:List (List Int)):List PV:=qs.map nmP
theorem Ch.turn{q:List Int}{w v:PV}(c:Ch q w v)(N b:Option Sl):∃ b',bZ [some (.sh v),N,some (.sh (nmP q)),b]=.nx [some (.sh w),N,some (.sh (nmP q)),b']:=by
 cases c with
 | row pre post h=>
   have h1:=zL pre w post
   exact⟨some (.sh (.int (pre.length:Nat))),by simp -implicitDefEqProofs [bZ,h,bM,bK,bI,h1]⟩
 | fld pre post h=>
   have h1:=qX (pre++(q,w) ::post) pre.length (q,w) (by simp)
   exact⟨some (.sh (.int (pre.length:Nat))),by simp -implicitDefEqProofs [bZ,h,bM,bK,bI,h1]⟩
theorem yo{qs:List (List Int)}{v:PV}{r:Option PV}(g:Got qs v r):∀(N a b:Option Sl),
  (∀ w,r=some w->∃ a' b',cG 2 bZ (tps qs) [some (.sh v),N,a,b]=.nx [some (.sh w),N,a',b']) /\ (r=none->∃ ρ,cG 2 bZ (tps qs) [some (.sh v),N,a,b]=.rt ρ (.fr [])):=by
 induction g with
 |nil v=>intro N a b;exact⟨fun w h=>by cases h;exact⟨a,b,rfl⟩,fun h=>by cases h⟩
 | @no q qs v h=>
   intro N a b
   refine⟨fun w h=>(by cases h),fun _=>⟨[some (.sh v),N,some (.sh (nmP q)),some (.sh (.int (-1)))],?_⟩⟩
   have hb:bZ [some (.sh v),N,some (.sh (nmP q)),b]=.rt [some (.sh v),N,some (.sh (nmP q)),some (.sh (.int (-1)))] (.fr []):=by simp -implicitDefEqProofs [bZ,h]
   show cG 2 bZ (nmP q ::tps qs) _=_;rw[ib]
   show(bZ [some (.sh v),N,some (.sh (nmP q)),b]).turn _=_
   rw[hb];rfl
 | @step q qs v w r h g ih=>
   intro N a b;obtain⟨b',hb⟩:=h.turn N b
   have e:cG 2 bZ (tps (q ::qs)) [some (.sh v),N,a,b]=cG 2 bZ (tps qs) [some (.sh w),N,some (.sh (nmP q)),b']:=gc hb
   rw[e];exact ih N _ _
theorem lP{qs:List (List Int)}{v:PV}{r:Option PV}(g:Got qs v r):cL [v,.tup (tps qs)]=.ok (.fr r.toList):=by
 have h:=yo g (some (.sh (.tup (tps qs)))) none none
 have hf:gP 2 (ai 1) bZ [some (.sh v),some (.sh (.tup (tps qs))),none,none]=cG 2 bZ (tps qs) [some (.sh v),some (.sh (.tup (tps qs))),none,none]:=by
  simp only[gP,vp,List.getElem?_cons_zero,List.getElem?_cons_succ];rfl
 show fin (oX [some (.sh v),some (.sh (.tup (tps qs))),none,none])=_;unfold oX
 cases r with
 | none=>
   obtain⟨ρ,e⟩:=h.2 rfl;rw[q8 (hf.trans e)];rfl
 | some w=>
   obtain⟨a',b',e⟩:=h.1 w rfl
   have l1:1<=lim:=aG (by omega)
   rw[aS (hf.trans e)];simp[l1]
theorem Ch.gd{W n:Nat}{q:List Int}{w v:PV}(c:Ch q w v)(g:Gd W n v):∃ m,n=m+1 /\ Gd W m w:=by
 cases c with
 | row pre post h=>
   cases n with
   |zero=>exact(vo g).elim
   |succ n=>exact⟨n,rfl,g.Bp.2 w (by simp)⟩
 | fld pre post h=>
   cases n with
   |zero=>exact(vD g).elim
   |succ n=>exact⟨n,rfl,g.AY.2.2 (q,w) (by simp)⟩
theorem Bf(x:PV)(xs:List PV):jt (x ::xs) none (some 1)=[x]:=by
 simp only[jt,kD,List.length_cons,List.drop_zero];rw[show(if(1:Int)<0 then((1:Int)+((xs.length+1:Nat):Int)).toNat else min (Int.toNat 1) (xs.length+1))=1 by rw[if_neg (by omega)];omega];simp
theorem xj(x:PV)(xs:List PV):jt (x ::xs) (some 1) none=xs:=by
 simp only[jt,kD,List.length_cons];rw[show(if(1:Int)<0 then((1:Int)+((xs.length+1:Nat):Int)).toNat else min (Int.toNat 1) (xs.length+1))=1 by rw[if_neg (by omega)];omega];simp
theorem Ch.D6{q:List Int}{w v:PV}(c:Ch q w v):cL [v,.tup [nmP q]]=.ok (.fr [w]):=lP (.step c (.nil w))
theorem Ch.out{W m:Nat}{q:List Int}{w v:PV}(hW:W<=1000)(c:Ch q w v)(g:Gd W (m+1) v)(rec:List PV->OE):∃ u ρ,cI rec [some (.sh v),some (.sh (.tup [nmP q])),none,none]=.rt ρ (.fr [u]) /\ Gd W (m+1) u:=by
 have l3:1<=lim:=aG (by omega)
 have l4:2<=lim:=aG (by omega)
 cases c with
 | row pre post h=>
   obtain⟨hl,ha⟩:=g.Bp;have h1:=o5 pre w post;have h2:=oV pre w post
   have l2:pre.length+post.length<=lim:=aG (by simp at hl;omega)
   refine⟨b0 (pre++post),[some (.sh (b0 (pre++w ::post))),some (.sh (.tup [nmP q])),some (.sh (.int (pre.length:Nat))),none],?_,.row (by simp at hl ⊢;omega) fun x hx=>ha x (by rcases List.mem_append.mp hx with z|z<;>simp[z])⟩
   simp -implicitDefEqProofs [cI,h,cY,nH,h1,h2,bR,l2,l3,l4]
 | fld pre post h=>
   obtain⟨hl,hn,ha⟩:=g.AY
   refine⟨bc (pre++post),[some (.sh (bc (pre++(q,w) ::post))),some (.sh (.tup [nmP q])),some (.sh (.int (pre.length:Nat))),none],?_,.fld (by simp at hl ⊢;omega) ?_ fun x hx=>ha x (by rcases List.mem_append.mp hx with z|z<;>simp[z])⟩
   . rw[show bc (pre++(q,w) ::post)=.tup [.str "fields",.tup (az pre ++ .tup [nmP q,w] ::az post)] by simp[bc,ez,dU]]at h ⊢
     rw[show bc (pre++post)=.tup [.str "fields",.tup (az pre++az post)] by simp[bc,ez]];have e:=br pre;have e2:=br post;have h1:=o5 (az pre) (.tup [nmP q,w]) (az post);have h2:=oV (az pre) (.tup [nmP q,w]) (az post);rw[e]at h1 h2
     have l2:pre.length+post.length<=lim:=aG (by simp at hl;omega)
     simp -implicitDefEqProofs [cI,h,cY,nH,h1,h2,bR,l2,l3,l4,e,e2]
   . have:((pre++post).map (·.1)).Sublist ((pre++(q,w) ::post).map (·.1)):=List.Sublist.map _ (List.Sublist.append_left (List.sublist_cons_self _ _) _)
     exact this.nodup hn
theorem mf{qs:List (List Int)}{v x:PV}(h1:Got qs v none)(h2:Got qs v (some x)):False:=by
 have:=(lP h1).symm.trans (lP h2);simp at this
theorem rM{W:Nat}(hW:W<=1000):∀(n k:Nat) (v:PV) (qs:List (List Int)),n<k->Gd W n v ->
  ∃ r:List PV,bD k [v,.tup (tps qs)]=.ok (.fr r) /\ (r=[] \/ ∃ u,r=[u] /\ Gd W n u) /\ (∀ x,Got qs v (some x)->qs≠[]->r≠[]):=by
 intro n
 induction n with
 | zero=>
   intro k v qs hk g
   obtain⟨k,rfl⟩:∃ j,k=j+1:=⟨k - 1,by omega⟩
   cases qs with
   |nil=>exact⟨[],by simp[bD,eM],.inl rfl,fun x _ h=>absurd rfl h⟩
   | cons q qs=>
     have gt:Got (q ::qs) v none:=.no (lh v g q)
     have hg:=lP gt
     exact⟨[],by simp at hg;simp[bD,eM,hg],.inl rfl,fun x h _=>(mf gt h).elim⟩
 | succ n ih=>
   intro k v qs hk g
   obtain⟨k,rfl⟩:∃ j,k=j+1:=⟨k - 1,by omega⟩
   cases qs with
   |nil=>exact⟨[],by simp[bD,eM],.inl rfl,fun x _ h=>absurd rfl h⟩
   | cons q qs=>
     obtain⟨r,gt,_⟩:=t6 hW (q ::qs) (n+1) v g;have hg:=lP gt
     cases r with
     |none=>exact⟨[],by simp at hg;simp[bD,eM,hg],.inl rfl,fun x h _=>(mf gt h).elim⟩
     | some x=>
       have hgo:bD (k+1) [v,.tup (tps (q ::qs))]=fin (cI (bD k) [some (.sh v),some (.sh (.tup (tps (q ::qs)))),none,none]):=by
        show fin (eM (bD k) [some (.sh v),some (.sh (.tup (tps (q ::qs)))),none,none])=_;unfold eM;rw[sk (by simp at hg;simp[hg])]
       cases gt with
       | @step _ _ _ w _ c gt2=>
         cases qs with
         | nil=>
           obtain⟨u,ρ,e,gu⟩:=c.out hW g (bD k)
           exact⟨[u],by rw[hgo];show fin (cI _ [some (.sh v),some (.sh (.tup [nmP q])),none,none])=_;rw[e];rfl,.inr ⟨u,rfl,gu⟩,fun _ _ _=>by simp⟩
         | cons q2 qs=>
           obtain⟨m,hm,gw⟩:=c.gd g;cases hm;obtain⟨r',h1,h2,h3⟩:=ih k w (q2 ::qs) (by omega) gw
           obtain⟨u',rfl,gu'⟩:∃ u,r'=[u] /\ Gd W n u:=by
            rcases h2 with h2|h2
            . exact absurd h2 (h3 x gt2 (by simp))
            . exact h2
           obtain⟨u,e,gu⟩:=c.put hW g gu' (Nat.le_refl _)
           refine⟨[u],?_,.inr ⟨u,rfl,gu⟩,fun _ _ _=>by simp⟩
           rw[hgo]
           obtain⟨xs,hxs⟩:∃ xs,xs=tps (q2 ::qs):=⟨_,rfl⟩
           have hlen:¬ (xs.length:Int)+1=1:=by rw[hxs];simp;omega
           rw[<- hxs]at h1;show fin (cI (bD k) [some (.sh v),some (.sh (.tup (nmP q ::tps (q2 ::qs)))),none,none])=_;rw[<- hxs]
           have l3:1<=lim:=aG (by omega)
           have hg1:=c.D6;unfold cI;rw[sk (by simp[hlen])];unfold kz;rw[aS (ρ':=[some (.sh v),some (.sh (.tup (nmP q ::xs))),none,some (.ow [u'])]) (by simp -implicitDefEqProofs [cY,nH,Bf,xj,hg1,h1])];simp -implicitDefEqProofs [ku,e,l3]
theorem vM{W b:Nat}(hW:W<=1000)(new:PV)(gn:Gd W b new):∀(n k:Nat) (v:PV) (qs:List (List Int)),n<k->Gd W n v ->
  ∃ r:List PV,b8 k [v,.tup (tps qs),new]=.ok (.fr r) /\ (r=[] \/ ∃ u,r=[u] /\ Gd W (n+b) u) /\ (∀ x,Got qs v (some x)->r≠[]):=by
 intro n
 induction n with
 | zero=>
   intro k v qs hk g
   obtain⟨k,rfl⟩:∃ j,k=j+1:=⟨k - 1,by omega⟩
   have l3:1<=lim:=aG (by omega)
   cases qs with
   | nil=>
     have hg:=lP (.nil v)
     exact⟨[new],by simp at hg;simp[b8,dO,fR,hg,l3],.inr ⟨new,rfl,gn.mono (Nat.le_refl _) (by omega)⟩,fun x _=>by simp⟩
   | cons q qs=>
     have gt:Got (q ::qs) v none:=.no (lh v g q)
     have hg:=lP gt
     exact⟨[],by simp at hg;simp[b8,dO,hg],.inl rfl,fun x h=>(mf gt h).elim⟩
 | succ n ih=>
   intro k v qs hk g
   obtain⟨k,rfl⟩:∃ j,k=j+1:=⟨k - 1,by omega⟩
   have l3:1<=lim:=aG (by omega)
   cases qs with
   | nil=>
     have hg:=lP (.nil v)
     exact⟨[new],by simp at hg;simp[b8,dO,fR,hg,l3],.inr ⟨new,rfl,gn.mono (Nat.le_refl _) (by omega)⟩,fun x _=>by simp⟩
   | cons q qs=>
     obtain⟨r,gt,_⟩:=t6 hW (q ::qs) (n+1) v g;have hg:=lP gt
     cases r with
     |none=>exact⟨[],by simp at hg;simp[b8,dO,hg],.inl rfl,fun x h=>(mf gt h).elim⟩
     | some x=>
       cases gt with
       | @step _ _ _ w _ c gt2=>
         obtain⟨m,hm,gw⟩:=c.gd g;cases hm;obtain⟨r',h1,h2,h3⟩:=ih k w qs (by omega) gw
         obtain⟨u',rfl,gu'⟩:∃ u,r'=[u] /\ Gd W (n+b) u:=by
          rcases h2 with h2|h2
          . exact absurd h2 (h3 x gt2)
          . exact h2
         obtain⟨u,e,gu⟩:=c.put hW g gu' (by omega)
         refine⟨[u],?_,.inr ⟨u,rfl,gu.mono (Nat.le_refl _) (by omega)⟩,fun _ _=>by simp⟩
         obtain⟨xs,hxs⟩:∃ xs,xs=tps qs:=⟨_,rfl⟩
         have hg2:cL [v,.tup (nmP q ::xs)]=.ok (.fr [x]):=by rw[hxs];exact hg
         rw[<- hxs]at h1;show fin (dO (b8 k) [some (.sh v),some (.sh (.tup (nmP q ::tps qs))),some (.sh new),none])=_;rw[<- hxs];have hg1:=c.D6;unfold dO;rw[sk (by simp[hg2])];unfold fR;rw[sk (by simp)];unfold jL;rw[aS (ρ':=[some (.sh v),some (.sh (.tup (nmP q ::xs))),some (.sh new),some (.ow [u'])]) (by simp -implicitDefEqProofs [cY,nH,Bf,xj,hg1,h1])];simp -implicitDefEqProofs [jM,e,l3]
theorem xf(pre post:List PV):jt (pre++post) none (some ((pre.length:Nat):Int))=pre:=by
 have h:kD (pre++post).length (pre++post).length (some ((pre.length:Nat):Int))=pre.length:=by
  simp only[kD,List.length_append];split<;>omega
 unfold jt;rw[h];simp[kD]
theorem xa(pre post:List PV):jt (pre++post) (some ((pre.length:Nat):Int)) none=post:=by
 have h:kD (pre++post).length 0 (some ((pre.length:Nat):Int))=pre.length:=by
  simp only[kD,List.length_append];split<;>omega
 unfold jt;rw[h];simp[kD]
theorem iQ(k:Nat)(v new:PV)(q:List Int)(xs:List PV)(K:String)(i:Int)(h1:bj (cx (mIs "tuple" (ai 0))) (ba 3 (mOp aN (ai 0) (mC (.int 0)))) aY [some (.sh v),some (.sh (.tup (nmP q ::xs))),some (.sh new),some (.sh (.str "")),none,none]=.nx [some (.sh v),some (.sh (.tup (nmP q ::xs))),some (.sh new),some (.sh (.str (Str.ofString K))),none,none])(h2:bp [v,nmP q]=.ok (.sh (.int i))):
  bQ (k+1) [v,.tup (nmP q ::xs),new]=fin (cR (bQ k) [some (.sh v),some (.sh (.tup (nmP q ::xs))),some (.sh new),some (.sh (.str (Str.ofString K))),some (.sh (.int i)),none]):=by
 show fin (iq (bQ k) [some (.sh v),some (.sh (.tup (nmP q ::xs))),some (.sh new),none,none,none])=_;unfold iq;rw[sk (by simp)];unfold mP;rw[aS (ρ':=[some (.sh v),some (.sh (.tup (nmP q ::xs))),some (.sh new),some (.sh (.str "")),none,none]) (by simp)];unfold mG;rw[aS h1];unfold mJ;rw[aS (ρ':=[some (.sh v),some (.sh (.tup (nmP q ::xs))),some (.sh new),some (.sh (.str (Str.ofString K))),some (.sh (.int i)),none]) (by simp[h2])]
theorem u6{W n:Nat}{v:PV}(g:Gd W n v):∃ K:String,(∀(N new:Option Sl),bj (cx (mIs "tuple" (ai 0))) (ba 3 (mOp aN (ai 0) (mC (.int 0)))) aY [some (.sh v),N,new,some (.sh (.str "")),none,none]=.nx [some (.sh v),N,new,some (.sh (.str (Str.ofString K))),none,none]) /\ ((PJ.oB v /\ K ≠ "row" /\ K ≠ "fields") \/ ((∃ vs,v=b0 vs) /\ K = "row") \/ ((∃ ps,v=bc ps) /\ K = "fields")):=by
 rcases g.cs with h|⟨m,vs,rfl,rfl,hl,h⟩|⟨m,ps,rfl,rfl,hl,hn,h⟩
 . have hh:=h
   rcases h with rfl|⟨b,rfl⟩|⟨a,p,rfl,_⟩|⟨cs,rfl,_⟩
   . exact⟨"",fun N new=>by simp[mIs,isP],.inl ⟨hh,by decide,by decide⟩⟩
   . exact⟨"",fun N new=>by simp[mIs,isP],.inl ⟨hh,by decide,by decide⟩⟩
   . exact⟨"number",fun N new=>by simp[mIs],.inl ⟨hh,by decide,by decide⟩⟩
   . exact⟨"text",fun N new=>by simp[mIs],.inl ⟨hh,by decide,by decide⟩⟩
 . exact⟨"row",fun N new=>by simp[mIs],.inr (.inl ⟨⟨vs,rfl⟩,rfl⟩)⟩
 . exact⟨"fields",fun N new=>by simp[mIs],.inr (.inr ⟨⟨ps,rfl⟩,rfl⟩)⟩
theorem bS(a b:String):bM (.str (Str.ofString a)) (.str (Str.ofString b))=some (.sh (.bl (decide (a=b)))):=by simp[bM,bK,bI]
theorem yb(rec:List PV->OE){W m b:Nat}(hW:W<=999)(q:List Int)(vs:List PV)(new:PV)(i:Int)(g:Gd W (m+1) (b0 vs))(gn:Gd W b new):
  ∃ ρ r,fX rec [some (.sh (b0 vs)),some (.sh (.tup [nmP q])),some (.sh new),some (.sh (.str (Str.ofString "row"))),some (.sh (.int i)),none]=.rt ρ (.fr r) /\ (r=[] \/ ∃ u,r=[u] /\ Gd (W+1) (m+b+1) u):=by
 have l3:1<=lim:=aG (by omega)
 have l4:2<=lim:=aG (by omega)
 obtain⟨hl,ha⟩:=g.Bp;obtain⟨i0,hp,hp2⟩:=w9 q;have hq:=yr q [45]
 obtain⟨j,hset⟩:∃ j:Int,ba 4 (i5 (aI (mOp bM (mOp aN (ai 1) (mC (.int 0))) (bC (ag (mC (.int 45)) ax)))) (mUn fq (mOp aN (ai 0) (mC (.int 1)))) (aH cW (ag (mOp aN (ai 1) (mC (.int 0))) ax))) [some (.sh (b0 vs)),some (.sh (.tup [nmP q])),some (.sh new),some (.sh (.str (Str.ofString "row"))),some (.sh (.int i)),none]=.nx [some (.sh (b0 vs)),some (.sh (.tup [nmP q])),some (.sh new),some (.sh (.str (Str.ofString "row"))),some (.sh (.int j)),none]:=by
  by_cases h:q=[45]
  . rw[decide_eq_true h]at hq;simp only[List.map_cons,List.map_nil]at hq
    exact⟨(vs.length:Int),by simp -implicitDefEqProofs [hq,l3]⟩
  . rw[decide_eq_false h]at hq;simp only[List.map_cons,List.map_nil]at hq
    exact⟨i0,by simp -implicitDefEqProofs [hq,l3,hp]⟩
 unfold fX;rw[sk (by simp[jg,bK,bI])];unfold mI;rw[aS hset];unfold mO
 by_cases h:0<=j /\ j<=(vs.length:Int)
 . rw[sk (by simp[h.1,h.2])]
   obtain⟨jn,rfl⟩:∃ n:Nat,j=n:=⟨j.toNat,by omega⟩
   obtain⟨pre,post,rfl,rfl⟩:∃ pre post,vs=pre++post /\ jn=pre.length:=⟨vs.take jn,vs.drop jn,(List.take_append_drop _ _).symm,by rw[List.length_take];omega⟩
   have h1:=xf pre post;have h2:=xa pre post
   have l1:pre.length+1<=lim:=aG (by simp at hl;omega)
   have l2:pre.length+1+post.length<=lim:=aG (by simp at hl;omega)
   refine⟨[some (.sh (b0 (pre++post))),some (.sh (.tup [nmP q])),some (.sh new),some (.sh (.str (Str.ofString "row"))),some (.sh (.int (pre.length:Nat))),none],[b0 (pre++new ::post)],?_,.inr ⟨_,rfl,.row (by simp at hl ⊢;omega) fun x hx=>?_⟩⟩
   . simp -implicitDefEqProofs [mK,cY,nH,h1,h2,bR,l1,l2,l3,l4]
   . rcases List.mem_append.mp hx with z|z
     . exact(ha x (by simp[z])).mono (by omega) (by omega)
     . rcases List.mem_cons.mp z with z|z
       . subst z;exact gn.mono (by omega) (by omega)
       . exact(ha x (by simp[z])).mono (by omega) (by omega)
 . refine⟨_,[],st (ρ':=[some (.sh (b0 vs)),some (.sh (.tup [nmP q])),some (.sh new),some (.sh (.str (Str.ofString "row"))),some (.sh (.int j)),none]) ?_ (by simp),.inl rfl⟩
   by_cases h1:0<=j
   . have h2:¬ j<=(vs.length:Int):=fun z=>h ⟨h1,z⟩
     simp[h1,h2]
   . simp[h1]
theorem BJ{W b:Nat}(hW:W<=999)(new:PV)(gn:Gd W b new):∀(n k:Nat) (v:PV) (qs:List (List Int)),n<k->Gd W n v ->
  ∃ r:List PV,bQ k [v,.tup (tps qs),new]=.ok (.fr r) /\ (r=[] \/ ∃ u,r=[u] /\ Gd (W+1) (n+b) u):=by
 intro n
 induction n with
 | zero=>
   intro k v qs hk g
   obtain⟨k,rfl⟩:∃ j,k=j+1:=⟨k - 1,by omega⟩
   have l3:1<=lim:=aG (by omega)
   cases qs with
   |nil=>exact⟨[new],by simp[bQ,iq,l3],.inr ⟨new,rfl,gn.mono (by omega) (by omega)⟩⟩
   | cons q qs=>
     obtain⟨K,hk1,hk2⟩:=u6 g
     obtain⟨h1,h2⟩:K ≠ "row" /\ K ≠ "fields":=by
      rcases hk2 with h|⟨⟨vs,rfl⟩,_⟩|⟨⟨ps,rfl⟩,_⟩
      . exact h.2
      . exact(vo g).elim
      . exact(vD g).elim
     have e:=iQ k v new q (tps qs) K (-1) (hk1 _ _) (lh v g q)
     refine⟨[],e.trans ?_,.inl rfl⟩
     by_cases hl:(1:Int)<(qs.length:Int)+1
     . simp[cR,hl]
     . simp[cR,eN,fX,hl,bS,h1,h2,jg,bK,bI]
 | succ n ih=>
   intro k v qs hk g
   obtain⟨k,rfl⟩:∃ j,k=j+1:=⟨k - 1,by omega⟩
   have l3:1<=lim:=aG (by omega)
   have l4:2<=lim:=aG (by omega)
   cases qs with
   |nil=>exact⟨[new],by simp[bQ,iq,l3],.inr ⟨new,rfl,gn.mono (by omega) (by omega)⟩⟩
   | cons q qs=>
     obtain⟨K,hk1,hk2⟩:=u6 g
     cases qs with
     | cons q2 qs=>
       obtain⟨xs,hxs⟩:∃ xs,xs=tps (q2 ::qs):=⟨_,rfl⟩
       have hlen:(1:Int)<(xs.length:Int)+1:=by rw[hxs];simp;omega
       show ∃ r:List PV,bQ (k+1) [v,.tup (nmP q ::tps (q2 ::qs)),new]=.ok (.fr r) /\ _
       rw[<- hxs]
       rcases CG (by omega) g q with hno|⟨w,m,hm,c,gw⟩
       . have e:=iQ k v new q xs K (-1) (hk1 _ _) hno
         exact⟨[],by rw[e];simp[cR,hlen],.inl rfl⟩
       . cases hm;obtain⟨j,hj⟩:=c.ix;have e:=iQ k v new q xs K j (hk1 _ _) hj;obtain⟨r',h1,h2⟩:=ih k w (q2 ::qs) (by omega) gw;rw[<- hxs]at h1;have hg1:=c.D6
         have hneg:¬ (j:Int)<0:=by omega
         rcases h2 with rfl|⟨u',rfl,gu'⟩
         . exact⟨[],by rw[e];simp -implicitDefEqProofs [cR,hlen,hneg,cY,nH,Bf,xj,hg1,h1],.inl rfl⟩
         . obtain⟨u,e2,gu⟩:=c.put (by omega) (g.mono (W':=W+1) (by omega) (Nat.le_refl _)) gu' (by omega)
           exact⟨[u],by rw[e];simp -implicitDefEqProofs [cR,hlen,hneg,cY,nH,Bf,xj,hg1,h1,e2,l3],.inr ⟨u,rfl,gu.mono (Nat.le_refl _) (by omega)⟩⟩
     | nil=>
       show ∃ r:List PV,bQ (k+1) [v,.tup [nmP q],new]=.ok (.fr r) /\ _
       have hskip:∀ i:Int,cR (bQ k) [some (.sh v),some (.sh (.tup [nmP q])),some (.sh new),some (.sh (.str (Str.ofString K))),some (.sh (.int i)),none]=eN (bQ k) [some (.sh v),some (.sh (.tup [nmP q])),some (.sh new),some (.sh (.str (Str.ofString K))),some (.sh (.int i)),none]:=fun i=>by
        unfold cR;exact sk (by simp)
       rcases hk2 with⟨hlf,h1,h2⟩|⟨⟨vs,rfl⟩,rfl⟩|⟨⟨ps,rfl⟩,rfl⟩
       . have e:=iQ k v new q [] K (-1) (hk1 _ _) (lh v hlf q)
         exact⟨[],by rw[e,hskip];simp[eN,fX,bS,h1,h2,jg,bK,bI],.inl rfl⟩
       . obtain⟨i,hi,_⟩:=sv vs q;have e:=iQ k _ new q [] "row" i (hk1 _ _) hi;obtain⟨ρ,r,e2,hr⟩:=yb (bQ k) hW q vs new i g gn
         refine⟨r,?_,?_⟩
         . rw[e,hskip];unfold eN;rw[sk (by simp[bS]),e2];rfl
         . rcases hr with hr|⟨u,hu,gu⟩
           . exact .inl hr
           . exact .inr ⟨u,hu,gu.mono (Nat.le_refl _) (by omega)⟩
       . obtain⟨hl,hn,ha⟩:=g.AY;have hix:=pe ps (by omega) q
         cases hf:fI q ps with
         | some j=>
           have hj:fII q ps=(j:Int):=by unfold fII;rw[hf]
           rw[hj]at hix;have e:=iQ k _ new q [] "fields" j (hk1 _ _) hix;obtain⟨pre,w,post,rfl,rfl,_⟩:=nN q ps j hf;obtain⟨u,e2,gu⟩:=(Ch.fld pre post hix).put (W:=W) (m:=n) (b:=n+b) (by omega) g (gn.mono (Nat.le_refl _) (by omega)) (by omega)
           have h0:(0:Int)<=(pre.length:Int):=by omega
           exact⟨[u],by rw[e,hskip];simp -implicitDefEqProofs [eN,bS,e2,l3,h0],.inr ⟨u,rfl,gu.mono (by omega) (by omega)⟩⟩
         | none=>
           have hj:fII q ps=-1:=by unfold fII;rw[hf]
           rw[hj]at hix;have e:=iQ k _ new q [] "fields" (-1) (hk1 _ _) hix;have hnot:=qe q ps hf
           have l2:ps.length+1<=lim:=aG (by omega)
           have hil:=br ps
           refine⟨[bc (ps++[(q,new)])],?_,.inr ⟨_,rfl,Gd.mono (n:=n+b+1) (W:=W+1) (Nat.le_refl _) (.fld (by simp;omega) ?_ fun x hx=>?_) (by omega)⟩⟩
           . rw[e,hskip,show bc (ps++[(q,new)])=.tup [.str "fields",.tup (az ps++[.tup [nmP q,new]])] by simp[bc,ez,dU,az]];simp -implicitDefEqProofs [eN,bS,bR,l2,l3,l4,hil]
           . rw[List.map_append,List.nodup_append]
             exact⟨hn,by simp,fun a ha b hb=>by
              have:b=q:=by simpa using hb
              subst this
              exact fun z=>hnot (z ▸ ha)⟩
           . rcases List.mem_append.mp hx with z|z
             . exact(ha x z).mono (by omega) (by omega)
             . have:x=(q,new):=by simpa using z
               subst this;exact gn.mono (by omega) (by omega)
theorem CJ(x:PV)(h:PJ.oB x)(n:Nat):bK x (n+2)=true:=by
 rcases h with rfl|⟨b,rfl⟩|⟨a,p,rfl,_⟩|⟨cs,rfl,_⟩
 . simp[bK]
 . simp[bK]
 . simp[bK,iu]
 . simp[bK,iu,ic]
theorem nV(xs:List PV)(n:Nat)(h:∀ x∈xs,bK x n=true):iu xs n=true:=by
 induction xs with
 |nil=>simp[iu]
 |cons x xs ih=>simp[iu,h x (by simp),ih fun y hy=>h y (by simp[hy])]
theorem okG{W:Nat}:∀(n k:Nat) (v:PV),Gd W n v->3*n+2<=k->bK v k=true:=by
 intro n
 induction n with
 |zero=>intro k v g h;obtain⟨j,rfl⟩:∃ j,k=j+2:=⟨k - 2,by omega⟩;exact CJ v g j
 | succ n ih=>
   intro k v g h
   obtain⟨j,rfl⟩:∃ j,k=j+3:=⟨k - 3,by omega⟩
   rcases g with g|⟨vs,rfl,hl,g⟩|⟨ps,rfl,hl,hn,g⟩
   . exact CJ v g (j+1)
   . have:=nV vs (j+1) fun x hx=>ih _ x (g x hx) (by omega)
     simp[bK,iu,this]
   . have:=nV (az ps) (j + 1) fun x hx=>by
      obtain⟨p,hp,rfl⟩:=List.mem_map.mp hx
      obtain⟨i,rfl⟩:∃ i,j=i+1:=⟨j - 1,by omega⟩
      have hh:=ih (i+1) p.2 (g p hp) (by omega);simp[bK,iu,ic,hh]
     simp[bK,iu,this]
theorem isT{W n:Nat}{v:PV}(g:Gd W n v):∃ b,isP "tuple" v=some b:=by
 rcases g.cs with h|⟨m,vs,rfl,rfl,hl,h⟩|⟨m,ps,rfl,rfl,hl,hn,h⟩
 . rcases h with rfl|⟨b,rfl⟩|⟨a,p,rfl,_⟩|⟨cs,rfl,_⟩
   . exact⟨false,rfl⟩
   . exact⟨false,rfl⟩
   . exact⟨true,rfl⟩
   . exact⟨true,rfl⟩
 . exact⟨true,rfl⟩
 . exact⟨true,rfl⟩
theorem Aj{W n:Nat}(hn:n<=65){x y:PV}(g:Gd W n x)(h:Gd W n y):oN x y=some (.sh (.bl (bI x y))):=by
 simp[oN,okG n 199 x g (by omega),okG n 199 y h (by omega)]
theorem Bx(a b:List Int):oN (nmP a) (nmP b)=some (.sh (.bl (decide (a=b)))):=by
 simp[oN,bK,ic,bI,rp]
theorem jK(a b:String):oN (.str (Str.ofString a)) (.str (Str.ofString b))=some (.sh (.bl (decide (a=b)))):=by simp[oN,bK,bI]
theorem pE(a b:String):xW (.str (Str.ofString a)) (.str (Str.ofString b))=some (.sh (.bl (!decide (a=b)))):=by simp[xW,bK,bI]
theorem qQ{W n:Nat}{v:PV}(g:Gd W n v):(aO [v]=.ok (.sh (.str (Str.ofString ""))) /\ PJ.oB v) \/ (aO [v]=.ok (.sh (.str (Str.ofString "row"))) /\ ∃ m vs,n=m+1 /\ v=b0 vs /\ vs.length<=W /\ ∀ w∈vs,Gd W m w) \/ (aO [v]=.ok (.sh (.str (Str.ofString "fields"))) /\ ∃ m,∃ ps:DT,n=m+1 /\ v=bc ps /\ ps.length<=W /\ (ps.map (·.1)).Nodup /\ ∀ p∈ps,Gd W m p.2):=by
 rcases g.cs with h|⟨m,vs,rfl,rfl,h⟩|⟨m,ps,rfl,rfl,h⟩
 . exact .inl ⟨ik v h,h⟩
 . exact .inr (.inl ⟨iS vs,m,vs,rfl,rfl,h⟩)
 . exact .inr (.inr ⟨oI ps,m,ps,rfl,rfl,h⟩)
theorem ie(rec:List PV->OE){W n:Nat}(hn:n<=65){x y:PV}(g:Gd W n x)(h:Gd W n y)(K:String)(s3 s4:Option Sl)(hc:(jj (aI (mOp oN (ai 2) (mC (.str "")))) (aI (mOp xW (ai 2) (aH aO (ag (ai 1) ax))))) [some (.sh x),some (.sh y),some (.sh (.str (Str.ofString K))),s3,s4]=.ok true):
  ∃ ρ b,dC rec [some (.sh x),some (.sh y),some (.sh (.str (Str.ofString K))),s3,s4]=.rt ρ (.sh (.bl b)):=by
 have he:=Aj hn g h;obtain⟨b1,h1⟩:=isT g;obtain⟨b2,h2⟩:=isT h
 refine⟨[some (.sh x),some (.sh y),some (.sh (.str (Str.ofString K))),s3,s4],(bI x y&&decide (b1=b2)),?_⟩
 unfold dC;refine st hc ?_
 cases hq:bI x y<;>simp[he,hq,mIs,h1,h2]
theorem wW{i:Nat}{B:ah->OS}(xs:List PV)(Inv:ah->Prop)(h:∀ x∈xs,∀ ρ,Inv ρ->(∃ ρ',B (ρ.set i (some (.sh x)))=.nx ρ' /\ Inv ρ') \/ ∃ ρ',B (ρ.set i (some (.sh x)))=.rt ρ' (.sh (.bl false))):∀ ρ,Inv ρ->(∃ ρ',cG i B xs ρ=.nx ρ' /\ Inv ρ') \/ ∃ ρ',cG i B xs ρ=.rt ρ' (.sh (.bl false)):=by
 induction xs with
 |nil=>intro ρ I;exact .inl ⟨ρ,rfl,I⟩
 | cons x xs ih=>
   intro ρ I
   rcases h x (by simp) ρ I with⟨ρ',e,I'⟩|⟨ρ',e⟩
   . rw[gc e];exact ih (fun y hy=>h y (by simp[hy])) ρ' I'
   . exact .inr ⟨ρ',by rw[ib,e];rfl⟩
theorem lM{mc:ah->OT}{me:ah->OE}{ρ:ah}{α:Type}{g:α->PV}(p:α->Bool):∀ l:List α,(∀ a∈l,mc (ρ++[some (.sh (g a))])=.ok (p a))->(∀ a∈l,me (ρ++[some (.sh (g a))])=.ok (.sh (g a)))->fo mc me ρ (l.map g)=.ok ((l.filter p).map g)
 |[],_,_=>rfl
 | a ::l,h1,h2=>by
   have ih:=lM p l (fun b hb=>h1 b (by simp[hb])) (fun b hb=>h2 b (by simp[hb]));have e1:=h1 a (by simp);have e2:=h2 a (by simp);rw[List.map_cons];unfold fo;rw[e1]
   cases hp:p a with
   |true=>simp[e2,ih,hp]
   |false=>simp[ih,hp]
theorem xT(rec:List PV->OE)(W n:Nat)(vs us:List PV)(hl:us.length=vs.length)(hlim:vs.length<=1000)(gv:∀ w∈vs,Gd W n w)(gu:∀ w∈us,Gd W n w)(hr:∀ x y,Gd W n x->Gd W n y->∃ b,rec [x,y]=.ok (.sh (.bl b))):
  ∃ ρ b,eL rec [some (.sh (b0 vs)),some (.sh (b0 us)),some (.sh (.str (Str.ofString "row"))),none,none]=.rt ρ (.sh (.bl b)):=by
 unfold eL;rw[sk (by simp[hl])];unfold jl
 have hx:=wW (i:=3) (B:=cU rec) (cO vs.length) (fun ρ=>∃ c,ρ=[some (.sh (b0 vs)),some (.sh (b0 us)),some (.sh (.str (Str.ofString "row"))),c,none]) (by
  intro x hx ρ ⟨c,hρ⟩;subst hρ;obtain⟨j,hj,rfl⟩:=List.mem_map.mp hx;have hj:=List.mem_range.mp hj
  have e1:atP vs (j:Int)=some vs[j]:=by rw[jU _ _ (by omega),Int.toNat_natCast];exact List.getElem?_eq_getElem hj
  have e2:atP us (j:Int)=some (us[j]'(by omega)):=by rw[jU _ _ (by omega),Int.toNat_natCast];exact List.getElem?_eq_getElem (by omega)
  obtain⟨b,hb⟩:=hr _ _ (gv _ (List.getElem_mem hj)) (gu _ (List.getElem_mem (show j<us.length by omega)))
  cases b with
  |true=>exact .inl ⟨[some (.sh (b0 vs)),some (.sh (b0 us)),some (.sh (.str (Str.ofString "row"))),some (.sh (.int j)),none],by simp[cU,jK,e1,e2,hb],_,rfl⟩
  |false=>exact .inr ⟨[some (.sh (b0 vs)),some (.sh (b0 us)),some (.sh (.str (Str.ofString "row"))),some (.sh (.int j)),none],by simp[cU,jK,e1,e2,hb]⟩) _ ⟨none,rfl⟩
 have hf:=og (ρ:=[some (.sh (b0 vs)),some (.sh (b0 us)),some (.sh (.str (Str.ofString "row"))),none,none]) (i:=3) (me:=mUn fq (mOp aN (ai 0) (mC (.int 1)))) (P:=cU rec) (j:=(vs.length:Int)) (by simp) (by omega);rw[Int.toNat_natCast]at hf
 rcases hx with⟨ρ',e,c,hρ⟩|⟨ρ',e⟩
 . exact⟨ρ',true,by rw[aS (hf.trans e)];simp[jf]⟩
 . exact⟨ρ',false,q8 (hf.trans e)⟩
theorem x5(rec:List PV->OE)(W n:Nat)(vs us:DT)(hl:us.length=vs.length)(hlim:vs.length<=1000)(gv:∀ w∈vs,Gd W n w.2)(gu:∀ w∈us,Gd W n w.2)(hr:∀ x y,Gd W n x->Gd W n y->∃ b,rec [x,y]=.ok (.sh (.bl b))):
  ∃ ρ b,eL rec [some (.sh (bc vs)),some (.sh (bc us)),some (.sh (.str (Str.ofString "fields"))),none,none]=.rt ρ (.sh (.bl b)):=by
 have hv:=br vs;have hu:=br us;unfold eL;rw[sk (by simp[hl,hv,hu])];unfold jl
 have hx:=wW (i:=3) (B:=cU rec) (cO vs.length) (fun ρ=>∃ c d,ρ=[some (.sh (bc vs)),some (.sh (bc us)),some (.sh (.str (Str.ofString "fields"))),c,d]) (by
  intro x hx ρ ⟨c,d,hρ⟩;subst hρ;obtain⟨j,hj,rfl⟩:=List.mem_map.mp hx;have hj:=List.mem_range.mp hj;have e1:=qX vs j vs[j] (List.getElem?_eq_getElem hj);have gj:=gv _ (List.getElem_mem hj);generalize vs[j]=p at e1 gj
  have hcomp:(ly (mOp aN (ai 1) (mC (.int 1))) [0,3] (gf rec) (fY rec)) [some (.sh (bc vs)),some (.sh (bc us)),some (.sh (.str (Str.ofString "fields"))),some (.sh (.int j)),d]=.ok (.fr (az (us.filter fun q=>decide (q.1=p.1)))):=by
   have hel:=lM (mc:=gf rec) (me:=fY rec) (ρ:=[some (.sh (bc vs)),some (.sh (.int j))]) (g:=fun q:List Int×PV=>PV.tup [.tup (q.1.map .int),q.2]) (fun q=>decide (q.1=p.1)) us (fun q _=>by
    have:=Bx q.1 p.1
    simp[gf,e1,this]) (fun q _=>by simp[fY])
   have hfl:(us.filter fun q=>decide (q.1=p.1)).length<=lim:=aG (by have:=List.length_filter_le (fun q:List Int×PV=>decide (q.1=p.1)) us;omega)
   simp -implicitDefEqProofs only[ly,zI,vp,EO,List.getElem?_cons_succ,List.getElem?_cons_zero,oY,Cv,D3]
   have:(oE (Option.map RV.sh (atP [PV.str "fields",PV.tup (az us)] 1)))=.ok (.sh (.tup (az us))):=rfl
   rw[this]
   simp -implicitDefEqProofs only[oY,Cv]
   have hp:dg [0,3] [some (.sh (bc vs)),some (.sh (bc us)),some (.sh (.str (Str.ofString "fields"))),some (.sh (.int j)),d]=[some (.sh (bc vs)),some (.sh (.int j))]:=rfl
   rw[hp];show noX (fo _ _ _ (us.map fun q:List Int×PV=>PV.tup [.tup (q.1.map .int),q.2]))=_;rw[hel];exact if_pos (by rw[List.length_map];exact hfl)
  have hmem:∀ q∈us.filter (fun q=>decide (q.1=p.1)),Gd W n q.2:=fun q hq=>gu q (List.mem_filter.mp hq).1
  generalize us.filter (fun q=>decide (q.1=p.1))=fs at hcomp hmem
  have hset:ba 4 (ly (mOp aN (ai 1) (mC (.int 1))) [0,3] (gf rec) (fY rec)) [some (.sh (bc vs)),some (.sh (bc us)),some (.sh (.str (Str.ofString "fields"))),some (.sh (.int j)),d]=.nx [some (.sh (bc vs)),some (.sh (bc us)),some (.sh (.str (Str.ofString "fields"))),some (.sh (.int j)),some (.ow (az fs))]:=by
   unfold ba;rw[hcomp];rfl
  have hgo:cU rec ([some (.sh (bc vs)),some (.sh (bc us)),some (.sh (.str (Str.ofString "fields"))),c,d].set 3 (some (.sh (.int j))))=(bj (jj (aI (mOp gNe (mUn fq (ai 4)) (mC (.int 1)))) (iR (cx (aH rec (ag (mOp aN (mOp aN (mOp aN (ai 0) (mC (.int 1))) (ai 3)) (mC (.int 1))) (ag (mOp aN (mOp eZ (ai 4) (mC (.int 0))) (mC (.int 1))) ax)))))) (bV (mC (.bl false))) aY) [some (.sh (bc vs)),some (.sh (bc us)),some (.sh (.str (Str.ofString "fields"))),some (.sh (.int j)),some (.ow (az fs))]:=by
   unfold cU;show bj _ _ _ [some (.sh (bc vs)),some (.sh (bc us)),some (.sh (.str (Str.ofString "fields"))),some (.sh (.int j)),d]=_;rw[vj (by simp[jK]),aS hset]
  rw[hgo]
  match fs,hmem with
  |[],_=>exact .inr ⟨[some (.sh (bc vs)),some (.sh (bc us)),some (.sh (.str (Str.ofString "fields"))),some (.sh (.int j)),some (.ow (az []))],by simp[az]⟩
  | [q],hm=>
    obtain⟨b,hb⟩:=hr p.2 q.2 gj (hm q (by simp))
    cases b with
    |true=>exact .inl ⟨[some (.sh (bc vs)),some (.sh (bc us)),some (.sh (.str (Str.ofString "fields"))),some (.sh (.int j)),some (.ow (az [q]))],by simp[show az [q]=[.tup [nmP q.1,q.2]] from rfl,e1,hb],_,_,rfl⟩
    |false=>exact .inr ⟨[some (.sh (bc vs)),some (.sh (bc us)),some (.sh (.str (Str.ofString "fields"))),some (.sh (.int j)),some (.ow (az [q]))],by simp[show az [q]=[.tup [nmP q.1,q.2]] from rfl,e1,hb]⟩
  | q ::q2 ::fs,_=>
    have hne:¬ (fs.length:Int)+1+1=1:=by omega
    exact .inr ⟨[some (.sh (bc vs)),some (.sh (bc us)),some (.sh (.str (Str.ofString "fields"))),some (.sh (.int j)),some (.ow (az (q ::q2 ::fs)))],by simp[az,hne]⟩) _ ⟨none,none,rfl⟩
 have hf:=og (ρ:=[some (.sh (bc vs)),some (.sh (bc us)),some (.sh (.str (Str.ofString "fields"))),none,none]) (i:=3) (me:=mUn fq (mOp aN (ai 0) (mC (.int 1)))) (P:=cU rec) (j:=(vs.length:Int)) (by simp[hv]) (by omega);rw[Int.toNat_natCast]at hf
 rcases hx with⟨ρ',e,c,hρ⟩|⟨ρ',e⟩
 . exact⟨ρ',true,by rw[aS (hf.trans e)];simp[jf]⟩
 . exact⟨ρ',false,q8 (hf.trans e)⟩
theorem By{W:Nat}(hW:W<=1000):∀(n k:Nat) (x y:PV),n<=65->n<k->Gd W n x->Gd W n y->∃ b,bP k [x,y]=.ok (.sh (.bl b)):=by
 intro n
 induction n with
 | zero=>
   intro k x y hn hk g h
   obtain⟨k,rfl⟩:∃ j,k=j+1:=⟨k - 1,by omega⟩
   have k1:=ik x g
   have hs:ba 2 (aH aO (ag (ai 0) ax)) [some (.sh x),some (.sh y),none,none,none]=.nx [some (.sh x),some (.sh y),some (.sh (.str (Str.ofString ""))),none,none]:=by simp[k1]
   obtain⟨ρ,b,e⟩:=ie (bP k) (W:=W) (n:=0) (by omega) g h "" none none (by simp[jK])
   refine⟨b,?_⟩
   show fin (fc (bP k) [some (.sh x),some (.sh y),none,none,none])=_;unfold fc;rw[aS hs,e];rfl
 | succ n ih=>
   intro k x y hn hk g h
   obtain⟨k,rfl⟩:∃ j,k=j+1:=⟨k - 1,by omega⟩
   have hrec:∀ x y,Gd W n x->Gd W n y->∃ b,bP k [x,y]=.ok (.sh (.bl b)):=fun x y gx gy=>ih k x y (by omega) (by omega) gx gy
   show ∃ b,fin (fc (bP k) [some (.sh x),some (.sh y),none,none,none])=_
   have hgo:∀ K:String,aO [x]=.ok (.sh (.str (Str.ofString K)))->fc (bP k) [some (.sh x),some (.sh y),none,none,none]=dC (bP k) [some (.sh x),some (.sh y),some (.sh (.str (Str.ofString K))),none,none]:=fun K hK=>by
    unfold fc;exact aS (by simp[hK])
   have fin1:(∃ ρ b,fc (bP k) [some (.sh x),some (.sh y),none,none,none]=.rt ρ (.sh (.bl b)))->∃ b,fin (fc (bP k) [some (.sh x),some (.sh y),none,none,none])=.ok (.sh (.bl b)):=fun ⟨ρ,b,e⟩=>⟨b,by rw[e];rfl⟩
   apply fin1
   rcases qQ g with⟨k1,_⟩|⟨k1,m,vs,hm,rfl,lv,gv⟩|⟨k1,m,ps,hm,rfl,lv,_,gv⟩
   . rw[hgo _ k1];exact ie _ hn g h "" none none (by simp[jK])
   . cases hm;rw[hgo _ k1]
     rcases qQ h with⟨k2,_⟩|⟨k2,m,us,hm,rfl,lu,gu⟩|⟨k2,m,qs,hm,rfl,lu,_,gu⟩
     . exact ie _ hn g h "row" none none (by simp[jK,pE,k2])
     . cases hm
       by_cases hl:us.length=vs.length
       . obtain⟨ρ,b,e⟩:=xT (bP k) W n vs us hl (by omega) gv gu hrec
         exact⟨ρ,b,by unfold dC;rw[sk (by simp[jK,pE,k2]),e]⟩
       . have hl2:¬ (vs.length:Int)=(us.length:Int):=by omega
         exact⟨[some (.sh (b0 vs)),some (.sh (b0 us)),some (.sh (.str (Str.ofString "row"))),none,none],false,by unfold dC;rw[sk (by simp[jK,pE,k2])];unfold eL;exact st (by simp;omega) (by simp)⟩
     . exact ie _ hn g h "row" none none (by simp[jK,pE,k2])
   . cases hm;rw[hgo _ k1]
     rcases qQ h with⟨k2,_⟩|⟨k2,m,us,hm,rfl,lu,gu⟩|⟨k2,m,qs,hm,rfl,lu,_,gu⟩
     . exact ie _ hn g h "fields" none none (by simp[jK,pE,k2])
     . exact ie _ hn g h "fields" none none (by simp[jK,pE,k2])
     . cases hm
       by_cases hl:qs.length=ps.length
       . obtain⟨ρ,b,e⟩:=x5 (bP k) W n ps qs hl (by omega) gv gu hrec
         exact⟨ρ,b,by unfold dC;rw[sk (by simp[jK,pE,k2]),e]⟩
       . have h1:=br ps;have h2:=br qs
         exact⟨[some (.sh (bc ps)),some (.sh (bc qs)),some (.sh (.str (Str.ofString "fields"))),none,none],false,by unfold dC;rw[sk (by simp[jK,pE,k2])];unfold eL;exact st (by simp[h1,h2];omega) (by simp)⟩
theorem va{me:ah->OE}{ρ:ah}{Q:PV->Prop}:∀ vs:List PV,(∀ w∈vs,∃ u,me (ρ++[some (.sh w)])=.ok (.sh u) /\ Q u)->∃ us,cf me ρ vs=.ok us /\ us.length=vs.length /\ ∀ u∈us,Q u
 |[],_=>⟨[],rfl,rfl,fun u h=>by cases h⟩
 | w ::vs,h=>by
   obtain⟨u,e,q⟩:=h w (by simp)
   obtain⟨us,e2,l,q2⟩:=va vs fun x hx=>h x (by simp[hx])
   refine⟨u ::us,by simp[cf,e,e2],by simp[l],fun x hx=>?_⟩
   rcases List.mem_cons.mp hx with z|z
   . subst z;exact q
   . exact q2 x z
theorem uS{me:ah->OE}{ρ:ah}{Q:PV->Prop}:∀ ps:DT,(∀ p∈ps,∃ u,me (ρ++[some (.sh (.tup [nmP p.1,p.2]))])=.ok (.sh (.tup [nmP p.1,u])) /\ Q u)->∃ qs:DT,cf me ρ (az ps)=.ok (az qs) /\ qs.map (·.1)=ps.map (·.1) /\ ∀ q∈qs,Q q.2
 |[],_=>⟨[],rfl,rfl,fun u h=>by cases h⟩
 | p ::ps,h=>by
   obtain⟨u,e,q⟩:=h p (by simp)
   obtain⟨qs,e2,l,q2⟩:=uS ps fun x hx=>h x (by simp[hx])
   refine⟨(p.1,u) ::qs,?_,by simp[l],fun x hx=>?_⟩
   . rw[dU,dU];simp[cf,e,e2]
   . rcases List.mem_cons.mp hx with z|z
     . subst z;exact q
     . exact q2 x z
theorem qL{ps qs:DT}(h:qs.map (·.1)=ps.map (·.1)):qs.length=ps.length:=by simpa using congrArg List.length h
theorem yZ{W:Nat}(hW:W<=1000):∀(n k:Nat) (v:PV) (N:Int),n<k->Gd W n v->∃ u,bF k [v,.int N]=.ok (.sh u) /\ Gd W n u:=by
 intro n
 induction n with
 | zero=>
   intro k v N hk g
   obtain⟨k,rfl⟩:∃ j,k=j+1:=⟨k - 1,by omega⟩
   have k1:=ik v g
   exact⟨v,by simp[bF,fh,fG,k1,bM,bK,bI],g⟩
 | succ n ih=>
   intro k v N hk g
   obtain⟨k,rfl⟩:∃ j,k=j+1:=⟨k - 1,by omega⟩
   have l4:2<=lim:=aG (by omega)
   rcases qQ g with⟨k1,_⟩|⟨k1,m,vs,hm,rfl,lv,gv⟩|⟨k1,m,ps,hm,rfl,lv,nd,gv⟩
   . exact⟨v,by simp[bF,fh,fG,k1,bS],g⟩
   . cases hm
     obtain⟨us,e,hl,gu⟩:=va (me:=fN (bF k)) (ρ:=[some (.sh (.int N))]) (Q:=Gd W n) vs fun w hw=>by
      obtain⟨u,e,gu⟩:=ih k w (N/3) (by omega) (gv w hw)
      exact⟨u,by simp[fN,e],gu⟩
     have hlim:us.length<=lim:=aG (by omega)
     refine⟨b0 us,?_,.row (by omega) gu⟩
     have hc:(qC (mOp aN (ai 0) (mC (.int 1))) [1] (fN (bF k))) [some (.sh (b0 vs)),some (.sh (.int N)),some (.sh (.str (Str.ofString "row"))),none,none]=.ok (.fr us):=by
      show noX (cf (fN (bF k)) [some (.sh (.int N))] vs)=_;rw[e];exact if_pos hlim
     show fin (fh (bF k) [some (.sh (b0 vs)),some (.sh (.int N)),none,none,none])=_;unfold fh;rw[aS (ρ':=[some (.sh (b0 vs)),some (.sh (.int N)),some (.sh (.str (Str.ofString "row"))),none,none]) (by simp[k1])];unfold fG;rw[sk (by simp[bS])];unfold i4;rw[mX,pZ (by simp[bS])];simp -implicitDefEqProofs [hc,fE,l4]
   . cases hm;have hil:=br ps
     have hm0:0<=N%((ps.length:Int)+1):=Int.emod_nonneg _ (by omega)
     have hm1:N%((ps.length:Int)+1)<(ps.length:Int)+1:=Int.emod_lt_of_pos _ (by omega)
     obtain⟨j,hj⟩:∃ j:Nat,N%((ps.length:Int)+1)=j:=⟨(N%((ps.length:Int)+1)).toNat,by omega⟩
     obtain⟨pre,post,rfl,rfl⟩:∃ pre post,ps=pre++post /\ j=pre.length:=⟨ps.take j,ps.drop j,(List.take_append_drop _ _).symm,by rw[List.length_take];omega⟩
     obtain⟨qs,e,hq,gq⟩:=uS (me:=fD (bF k)) (ρ:=[some (.sh (.int N))]) (Q:=Gd W n) (post++pre) fun p hp=>by
      obtain⟨u,e,gu⟩:=ih k p.2 (N/5) (by omega) (gv p (by rcases List.mem_append.mp hp with z|z<;>simp[z]))
      exact⟨u,by simp[fD,e,l4],gu⟩
     have hql:=qL hq
     have hlim:qs.length<=lim:=aG (by simp at hql lv;omega)
     have hnd:((post++pre).map (·.1)).Nodup:=(List.Perm.map _ List.perm_append_comm).nodup nd
     refine⟨bc qs,?_,.fld (by simp at hql lv;omega) (by rw[hq];exact hnd) gq⟩
     have hc:(qC (ai 4) [1] (fD (bF k))) [some (.sh (bc (pre++post))),some (.sh (.int N)),some (.sh (.str (Str.ofString "fields"))),some (.sh (.int (pre.length:Nat))),some (.sh (.tup (az (post++pre))))]=.ok (.fr (az qs)):=by
      show noX (cf (fD (bF k)) [some (.sh (.int N))] (az (post++pre)))=_;rw[e];exact if_pos (by rw[br];exact hlim)
     show fin (fh (bF k) [some (.sh (bc (pre++post))),some (.sh (.int N)),none,none,none])=_;unfold fh;rw[aS (ρ':=[some (.sh (bc (pre++post))),some (.sh (.int N)),some (.sh (.str (Str.ofString "fields"))),none,none]) (by simp[k1])];unfold fG;rw[sk (by simp[bS])];unfold i4;rw[sk (by simp[bS])];unfold kR
     have hpos:(0:Int)<((pre++post).length:Int)+1:=by omega
     rw[aS (ρ':=[some (.sh (bc (pre++post))),some (.sh (.int N)),some (.sh (.str (Str.ofString "fields"))),some (.sh (.int (pre.length:Nat))),none]) (by
      have h1:(mOp bX (ai 1) (mOp eT (mUn fq (mOp aN (ai 0) (mC (.int 1)))) (mC (.int 1)))) [some (.sh (bc (pre++post))),some (.sh (.int N)),some (.sh (.str (Str.ofString "fields"))),none,none]=.ok (.sh (.int (pre.length:Nat))):=by
       rw[<- hj,<- hil];rw[<- hil]at hpos;simp -implicitDefEqProofs [hpos,-List.length_append]
      unfold ba;rw[h1]
      rfl)]
     unfold ll;have h1:=xf (az pre) (az post);have h2:=xa (az pre) (az post);rw[br]at h1 h2
     have l2:(az post).length+(az pre).length<=lim:=aG (by rw[br,br];simp at lv;omega)
     rw[aS (ρ':=[some (.sh (bc (pre++post))),some (.sh (.int N)),some (.sh (.str (Str.ofString "fields"))),some (.sh (.int (pre.length:Nat))),some (.sh (.tup (az (post++pre))))]) (by
      simp -implicitDefEqProofs [ez,cY,nH,h1,h2,bR,l2])]
     simp -implicitDefEqProofs [lb,hc,fE,l4]
noncomputable def v5:PV->PV
 |.tup [_,y]=>y
 |x=>x
noncomputable def kids:PV->List PV
 |.tup [.str k,.tup xs]=>if k=Str.ofString "row" then xs else if k=Str.ofString "fields" then xs.map v5 else[]
 |_=>[]
noncomputable def sz:Nat->PV->Nat
 |0,_=>1
 |n+1,v=>1+((kids v).map (sz n)).sum
theorem lA(vs:List PV):kids (b0 vs)=vs:=by simp[kids]
theorem GC:¬ Str.ofString "fields" = Str.ofString "row":=by decide
theorem GQ:¬ Str.ofString "text" = Str.ofString "row":=by decide
theorem Gf:¬ Str.ofString "text" = Str.ofString "fields":=by decide
theorem kH(ps:DT):kids (bc ps)=ps.map (·.2):=by simp[kids,GC,az,Function.comp_def,v5]
theorem oD(v:PV)(h:PJ.oB v):kids v=[]:=by
 rcases h with rfl|⟨b,rfl⟩|⟨a,p,rfl,_⟩|⟨cs,rfl,_⟩<;>simp[kids,GQ,Gf]
theorem tB(n:Nat)(v:PV):1<=sz n v:=by cases n with|zero=>exact Nat.le_refl _|succ n=>show 1<=1+_;omega
theorem Gd.kids{W n:Nat}{v:PV}(g:Gd W (n+1) v):∀ w∈kids v,Gd W n w:=by
 rcases g with h|⟨vs,rfl,hl,h⟩|⟨ps,rfl,hl,hn,h⟩
 . rw[oD v h];intro w hw;cases hw
 . rw[lA];exact h
 . rw[kH];intro w hw;obtain⟨p,hp,rfl⟩:=List.mem_map.mp hw;exact h p hp
theorem iM{W:Nat}:∀(n m:Nat) (v:PV),Gd W n v->n<=m->sz m v=sz n v:=by
 intro n
 induction n with
 | zero=>
   intro m v g _
   cases m with
   |zero=>rfl
   |succ m=>show 1+_=1;rw[oD v g];rfl
 | succ n ih=>
   intro m v g h
   obtain⟨m,rfl⟩:∃ k,m=k+1:=⟨m - 1,by omega⟩
   show 1+_=1+_;rw[List.map_congr_left fun w hw=>ih m w (g.kids w hw) (by omega)]
theorem qc(f:PV->Nat)(hf:∀ v,1<=f v):∀ vs:List PV,vs.length<=(vs.map f).sum
 |[]=>by simp
 |v ::vs=>by have:=qc f hf vs;have:=hf v;simp;omega
theorem wQ(f:PV->Nat):∀(vs:List PV) (v:PV),v∈vs->f v<=(vs.map f).sum
 |[],v,h=>by cases h
 | w ::vs,v,h=>by
   rcases List.mem_cons.mp h with z|z
   . subst z;simp
   . have:=wQ f vs v z;simp;omega
theorem yW{W:Nat}:∀(n:Nat) (v:PV),Gd W n v->Gd (sz n v) n v:=by
 intro n
 induction n with
 |zero=>intro v g;exact g
 | succ n ih=>
   intro v g
   have hs:sz (n+1) v=1+((kids v).map (sz n)).sum:=rfl
   have h1:=qc (sz n) (tB n) (kids v);have h2:=wQ (sz n) (kids v);have gk:=g.kids
   rcases g with h|⟨vs,rfl,hl,h⟩|⟨ps,rfl,hl,hn,h⟩
   . exact .inl h
   . rw[lA]at h1 h2 hs gk
     exact .row (by omega) fun w hw=>(ih w (gk w hw)).mono (by have:=h2 w hw;omega) (Nat.le_refl _)
   . rw[kH]at h1 h2 hs gk;rw[List.length_map]at h1
     exact .fld (by omega) hn fun p hp=>(ih p.2 (h p hp)).mono (by have:=h2 p.2 (List.mem_map_of_mem hp);omega) (Nat.le_refl _)
theorem sF(rec:List PV->OE)(v:PV)(K:String)(f:PV->Nat):∀(xs:List PV) (a:Nat) (d:Option Sl),(∀ x∈xs,(aH rec (ag (i5 (aI (mOp bM (ai 1) (mC (.str "row")))) (ai 3) (mOp aN (ai 3) (mC (.int 1)))) ax))=(aH rec (ag (i5 (aI (mOp bM (ai 1) (mC (.str "row")))) (ai 3) (mOp aN (ai 3) (mC (.int 1)))) ax)) /\ ∀ a:Int,(aH rec (ag (i5 (aI (mOp bM (ai 1) (mC (.str "row")))) (ai 3) (mOp aN (ai 3) (mC (.int 1)))) ax)) [some (.sh v),some (.sh (.str (Str.ofString K))),some (.sh (.int a)),some (.sh x)]=.ok (.sh (.int (f x:Nat)))) ->
  ∃ d',cG 3 (fg rec) xs [some (.sh v),some (.sh (.str (Str.ofString K))),some (.sh (.int (a:Nat))),d]=.nx [some (.sh v),some (.sh (.str (Str.ofString K))),some (.sh (.int ((a+(xs.map f).sum:Nat):Int))),d']
 |[],a,d,_=>⟨d,by simp⟩
 | x ::xs,a,d,h=>by
   have hx:=(h x (by simp)).2 (a:Nat)
   have hb:fg rec ([some (.sh v),some (.sh (.str (Str.ofString K))),some (.sh (.int (a:Nat))),d].set 3 (some (.sh x)))=.nx [some (.sh v),some (.sh (.str (Str.ofString K))),some (.sh (.int ((a+f x:Nat):Int))),some (.sh x)]:=by
    show fg rec [some (.sh v),some (.sh (.str (Str.ofString K))),some (.sh (.int (a:Nat))),some (.sh x)]=_;unfold fg ba;rw[zI,hx];simp
   rw[gc hb]
   obtain⟨d',e⟩:=sF rec v K f xs (a+f x) (some (.sh x)) fun y hy=>h y (by simp[hy])
   refine⟨d',?_⟩
   rw[e,List.map_cons,List.sum_cons,Nat.add_assoc]
theorem Eg{W:Nat}(hW:W<=1001):∀(n k:Nat) (v:PV),n<k->Gd W n v->cH k [v]=.ok (.sh (.int (sz n v:Nat))):=by
 intro n
 induction n with
 | zero=>
   intro k v hk g
   obtain⟨k,rfl⟩:∃ j,k=j+1:=⟨k - 1,by omega⟩
   have k1:=ik v g;simp[cH,iW,iH,iG,iK,k1,jg,bK,bI,sz]
 | succ n ih=>
   intro k v hk g
   obtain⟨k,rfl⟩:∃ j,k=j+1:=⟨k - 1,by omega⟩
   have hgo:∀(K:String) (xs:List PV) (f:PV->Nat),K ≠ "" -> aO [v]=.ok (.sh (.str (Str.ofString K)))->(gP 3 (mOp aN (ai 0) (mC (.int 1))) (fg (cH k)) [some (.sh v),some (.sh (.str (Str.ofString K))),some (.sh (.int 1)),none]=cG 3 (fg (cH k)) xs [some (.sh v),some (.sh (.str (Str.ofString K))),some (.sh (.int 1)),none]) ->
     (∀ x∈xs,∀ a:Int,(aH (cH k) (ag (i5 (aI (mOp bM (ai 1) (mC (.str "row")))) (ai 3) (mOp aN (ai 3) (mC (.int 1)))) ax)) [some (.sh v),some (.sh (.str (Str.ofString K))),some (.sh (.int a)),some (.sh x)]=.ok (.sh (.int (f x:Nat)))) ->
     cH (k+1) [v]=.ok (.sh (.int ((1+(xs.map f).sum:Nat):Int))):=fun K xs f hK hk1 hfor hx=>by
    obtain⟨d',e⟩:=sF (cH k) v K f xs 1 none fun x hx'=>⟨rfl,hx x hx'⟩
    show fin (iW (cH k) [some (.sh v),none,none,none])=_;unfold iW;rw[aS (ρ':=[some (.sh v),some (.sh (.str (Str.ofString K))),none,none]) (by simp[hk1])];unfold iH;rw[aS (ρ':=[some (.sh v),some (.sh (.str (Str.ofString K))),some (.sh (.int 1)),none]) (by simp)];unfold iG;rw[mX,pZ (by simp[jg,bK,bI,hK]),hfor];rw[show((1:Nat):Int)=1 from rfl]at e;rw[e];simp[iK]
   rcases qQ g with⟨k1,hlf⟩|⟨k1,m,vs,hm,rfl,lv,gv⟩|⟨k1,m,ps,hm,rfl,lv,nd,gv⟩
   . have:sz (n+1) v=1:=by show 1+_=1;rw[oD v hlf];rfl
     rw[this];simp[cH,iW,iH,iG,iK,k1,jg,bK,bI]
   . cases hm
     have h:=hgo "row" vs (sz n) (by decide) k1 (by simp[gP,jJ]) fun x hx a=>by
      have:=ih k x (by omega) (gv x hx);simp[bS,this]
     have hs:sz (n+1) (b0 vs)=1+(vs.map (sz n)).sum:=by show 1+_=_;rw[lA]
     rw[hs];exact h
   . cases hm
     have h:=hgo "fields" (az ps) (fun x=>sz n (v5 x)) (by decide) k1 (by simp[gP,jJ]) fun x hx a=>by
      obtain⟨p,hp,rfl⟩:=List.mem_map.mp hx;have:=ih k p.2 (by omega) (gv p hp);simp[bS,this,v5]
     have hs:sz (n+1) (bc ps)=1+((az ps).map fun x=>sz n (v5 x)).sum:=by
      show 1+_=_;rw[kH]
      congr 2
      simp[az,v5]
     rw[hs];exact h
theorem rW(rec:List PV->OE)(v:PV)(K:String)(Q:Nat->PV->Prop)(hQ:∀ m m' x,Q m x->m<=m'->Q m' x)(N:Nat):∀(xs:List PV) (a:Nat) (d:Option Sl),a<=N->(∀ x∈xs,∃ m:Nat,m<=N /\ Q m x /\ ∀ a:Int,(aH rec (ag (i5 (aI (mOp bM (ai 1) (mC (.str "row")))) (ai 3) (mOp aN (ai 3) (mC (.int 1)))) ax)) [some (.sh v),some (.sh (.str (Str.ofString K))),some (.sh (.int a)),some (.sh x)]=.ok (.sh (.int (m:Nat)))) ->
  ∃(D:Nat) (d':Option Sl),a<=D /\ D<=N /\ (∀ x∈xs,Q D x) /\ cG 3 (fj rec) xs [some (.sh v),some (.sh (.str (Str.ofString K))),some (.sh (.int (a:Nat))),d]=.nx [some (.sh v),some (.sh (.str (Str.ofString K))),some (.sh (.int (D:Nat))),d']
 |[],a,d,ha,_=>⟨a,d,Nat.le_refl _,ha,fun x hx=>(by cases hx),rfl⟩
 | x ::xs,a,d,ha,h=>by
   obtain⟨m,hm,hq,hx⟩:=h x (by simp);have hx:=hx (a:Nat)
   have hb:fj rec ([some (.sh v),some (.sh (.str (Str.ofString K))),some (.sh (.int (a:Nat))),d].set 3 (some (.sh x)))=.nx [some (.sh v),some (.sh (.str (Str.ofString K))),some (.sh (.int ((max a m:Nat):Int))),some (.sh x)]:=by
    show fj rec [some (.sh v),some (.sh (.str (Str.ofString K))),some (.sh (.int (a:Nat))),some (.sh x)]=_;unfold fj ba;rw[zI,hx]
    have:(if(m:Int)>(a:Int)then(m:Int)else(a:Int))=((max a m:Nat):Int):=by split<;>omega
    simp[yD];omega
   rw[gc hb]
   obtain⟨D,d',h1,h2,h3,e⟩:=rW rec v K Q hQ N xs (max a m) (some (.sh x)) (by omega) fun y hy=>h y (by simp[hy])
   refine⟨D,d',by omega,h2,fun y hy=>?_,e⟩
   rcases List.mem_cons.mp hy with z|z
   . subst z;exact hQ m D y hq (by omega)
   . exact h3 y z
theorem C3{W:Nat}(hW:W<=1001):∀(n k:Nat) (v:PV),n<k->Gd W n v->∃ d:Nat,d<=n /\ cJ k [v]=.ok (.sh (.int (d:Nat))) /\ Gd W d v:=by
 intro n
 induction n with
 | zero=>
   intro k v hk g
   obtain⟨k,rfl⟩:∃ j,k=j+1:=⟨k - 1,by omega⟩
   have k1:=ik v g
   exact⟨0,by omega,by simp[cJ,i1,iz,k1,bM,bK,bI],g⟩
 | succ n ih=>
   intro k v hk g
   obtain⟨k,rfl⟩:∃ j,k=j+1:=⟨k - 1,by omega⟩
   have hgo:∀(K:String) (xs:List PV) (Q:Nat->PV->Prop),(∀ m m' x,Q m x->m<=m'->Q m' x)->K ≠ "" -> aO [v]=.ok (.sh (.str (Str.ofString K)))->(gP 3 (mOp aN (ai 0) (mC (.int 1))) (fj (cJ k)) [some (.sh v),some (.sh (.str (Str.ofString K))),some (.sh (.int 0)),none]=cG 3 (fj (cJ k)) xs [some (.sh v),some (.sh (.str (Str.ofString K))),some (.sh (.int 0)),none]) ->
     (∀ x∈xs,∃ m:Nat,m<=n /\ Q m x /\ ∀ a:Int,(aH (cJ k) (ag (i5 (aI (mOp bM (ai 1) (mC (.str "row")))) (ai 3) (mOp aN (ai 3) (mC (.int 1)))) ax)) [some (.sh v),some (.sh (.str (Str.ofString K))),some (.sh (.int a)),some (.sh x)]=.ok (.sh (.int (m:Nat)))) ->
     ∃ D:Nat,D<=n /\ cJ (k+1) [v]=.ok (.sh (.int ((D+1:Nat):Int))) /\ ∀ x∈xs,Q D x:=fun K xs Q hQ hK hk1 hfor hx=>by
    obtain⟨D,d',_,h2,h3,e⟩:=rW (cJ k) v K Q hQ n xs 0 none (by omega) hx
    refine⟨D,h2,?_,h3⟩
    show fin (i1 (cJ k) [some (.sh v),none,none,none])=_;unfold i1;rw[aS (ρ':=[some (.sh v),some (.sh (.str (Str.ofString K))),none,none]) (by simp[hk1])];unfold iz;rw[sk (by simp[bS,hK])];unfold oM;rw[aS (ρ':=[some (.sh v),some (.sh (.str (Str.ofString K))),some (.sh (.int 0)),none]) (by simp)];unfold nP;rw[aS (hfor.trans e)];simp[oJ];omega
   rcases qQ g with⟨k1,hlf⟩|⟨k1,m,vs,hm,rfl,lv,gv⟩|⟨k1,m,ps,hm,rfl,lv,nd,gv⟩
   . exact⟨0,by omega,by simp[cJ,i1,iz,k1,bS],hlf⟩
   . cases hm
     obtain⟨D,h1,h2,h3⟩:=hgo "row" vs (Gd W) (fun m m' x h hm=>h.mono (Nat.le_refl _) hm) (by decide) k1 (by simp[gP,jJ]) fun x hx=>by
      obtain⟨d,hd,e,gd⟩:=ih k x (by omega) (gv x hx)
      exact⟨d,hd,gd,fun a=>by simp[bS,e]⟩
     exact⟨D+1,by omega,h2,.row lv h3⟩
   . cases hm
     obtain⟨D,h1,h2,h3⟩:=hgo "fields" (az ps) (fun m x=>Gd W m (v5 x)) (fun m m' x h hm=>h.mono (Nat.le_refl _) hm) (by decide) k1 (by simp[gP,jJ]) fun x hx=>by
      obtain⟨p,hp,rfl⟩:=List.mem_map.mp hx;obtain⟨d,hd,e,gd⟩:=ih k p.2 (by omega) (gv p hp)
      exact⟨d,hd,gd,fun a=>by simp[bS,e]⟩
     exact⟨D+1,by omega,h2,.fld lv nd fun p hp=>h3 (.tup [nmP p.1,p.2]) (List.mem_map_of_mem (f:=fun p:List Int×PV=>PV.tup [.tup (p.1.map .int),p.2]) hp)⟩
theorem DD{W n:Nat}(hW:W<=1001)(hn:n<140)(v:PV)(g:Gd W n v):∃ b,fH [v]=.ok (.sh (.bl b)) /\ (b=true->Gd 300 64 v /\ sz 64 v<=300):=by
 have h1:gD [v]=.ok (.sh (.int (sz n v:Nat))):=Eg hW n 140 v hn g
 obtain⟨d,hd,h2,gd⟩:=C3 hW n 140 v hn g
 have h2:gB [v]=.ok (.sh (.int (d:Nat))):=h2
 refine⟨decide (((sz n v:Nat):Int)<=300)&&decide ((d:Int)<=64),?_,fun hb=>?_⟩
 . by_cases h:((sz n v:Nat):Int)<=300
   . simp[fH,m8,h1,h2,h]
   . simp[fH,m8,h1,h2,h]
 . rw[Bool.and_eq_true,decide_eq_true_eq,decide_eq_true_eq]at hb;have e1:=iM d n v gd hd;have e2:=iM d 64 v gd (by omega)
   have g64:Gd W 64 v:=gd.mono (Nat.le_refl _) (by omega)
   exact⟨(yW 64 v g64).mono (by omega) (Nat.le_refl _),by omega⟩
theorem qJ(rec:List PV->OE)(W n:Nat)(v:PV)(hr:∀ x (N:Int),Gd W n x->∃ u,rec [x,.int N]=.ok (.sh u) /\ Gd W n u):∀(ps fs:DT) (N:Int) (a b:Option Sl),fs.length+ps.length<=1000->(∀ p∈ps,Gd W n p.2) ->
  ∃(qs:DT) (N':Int) (a' b':Option Sl),fQ 3 4 (cQ rec) (az ps) [some (.sh v),some (.sh (.int N)),some (.ow (az fs)),a,b]=.nx [some (.sh v),some (.sh (.int N')),some (.ow (az (fs++qs))),a',b'] /\ qs.map (·.1)=ps.map (·.1) /\ ∀ q∈qs,Gd W n q.2
 |[],fs,N,a,b,_,_=>⟨[],N,a,b,by rw[List.append_nil];rfl,rfl,fun q h=>by cases h⟩
 | p ::ps,fs,N,a,b,hl,g=>by
   have l4:2<=lim:=aG (by omega)
   have lf:fs.length<lim:=Nat.lt_of_lt_of_le (Nat.lt_succ_self _) (aG (by simp at hl;omega))
   have hil:=br fs
   obtain⟨u,hu,gu⟩:∃ u,(i5 (aI (mOp gEq (mOp bX (ai 1) (mC (.int 4))) (mC (.int 1)))) (mC .non) (aH rec (ag (ai 4) (ag (ai 1) ax)))) [some (.sh v),some (.sh (.int (N/3+1))),some (.ow (az fs)),some (.sh (nmP p.1)),some (.sh p.2)]=.ok (.sh u) /\ Gd W n u:=by
    obtain⟨u,e,gu⟩:=hr p.2 (N/3+1) (g p (by simp))
    by_cases h:(N/3+1)%4=1
    . exact⟨.non,by simp[h],.lf (.inl rfl)⟩
    . exact⟨u,by simp[h,e],gu⟩
   have hb:cQ rec [some (.sh v),some (.sh (.int N)),some (.ow (az fs)),some (.sh (nmP p.1)),some (.sh p.2)]=.nx [some (.sh v),some (.sh (.int (N/3+1))),some (.ow (az (fs++[(p.1,u)]))),some (.sh (nmP p.1)),some (.sh p.2)]:=by
    unfold cQ;rw[aS (ρ':=[some (.sh v),some (.sh (.int (N/3+1))),some (.ow (az fs)),some (.sh (nmP p.1)),some (.sh p.2)]) (by simp),ez]
    simp -implicitDefEqProofs only[ye,vT,mj,hu]
    simp -implicitDefEqProofs [l4,hil,lf];rfl
   have e0:fQ 3 4 (cQ rec) (az (p ::ps)) [some (.sh v),some (.sh (.int N)),some (.ow (az fs)),a,b]=(cQ rec [some (.sh v),some (.sh (.int N)),some (.ow (az fs)),some (.sh (nmP p.1)),some (.sh p.2)]).turn (fQ 3 4 (cQ rec) (az ps)):=rfl
   obtain⟨qs,N',a',b',e,h1,h2⟩:=qJ rec W n v hr ps (fs++[(p.1,u)]) (N/3+1) (some (.sh (nmP p.1))) (some (.sh p.2)) (by simp at hl ⊢;omega) fun q hq=>g q (by simp[hq])
   refine⟨(p.1,u) ::qs,N',a',b',?_,by simp[h1],fun q hq=>?_⟩
   . rw[e0,hb,oj,e,List.append_assoc];rfl
   . rcases List.mem_cons.mp hq with z|z
     . subst z;exact gu
     . exact h2 q z
theorem Bs{W:Nat}(hW:W<=1000):∀(n k:Nat) (v:PV) (N:Int),n<k->Gd W n v->∃ u,cw k [v,.int N]=.ok (.sh u) /\ Gd W n u:=by
 intro n
 induction n with
 | zero=>
   intro k v N hk g
   obtain⟨k,rfl⟩:∃ j,k=j+1:=⟨k - 1,by omega⟩
   have k1:=ik v g
   exact⟨v,by simp[cw,gO,k1,jg,bK,bI],g⟩
 | succ n ih=>
   intro k v N hk g
   obtain⟨k,rfl⟩:∃ j,k=j+1:=⟨k - 1,by omega⟩
   rcases qQ g with⟨k1,_⟩|⟨k1,m,vs,hm,rfl,lv,gv⟩|⟨k1,m,ps,hm,rfl,lv,nd,gv⟩
   . exact⟨v,by simp[cw,gO,k1,jg,bK,bI],g⟩
   . exact⟨b0 vs,by simp[cw,gO,k1,jg,bK,bI],g⟩
   . cases hm
     have l4:2<=lim:=aG (by omega)
     obtain⟨qs,N',a',b',e,h1,h2⟩:=qJ (cw k) W n (bc ps) (fun x N gx=>ih k x N (by omega) gx) ps [] N none none (by simp;omega) gv;have hql:=qL h1
     refine⟨bc qs,?_,.fld (by omega) (by rw[h1];exact nd) h2⟩
     show fin (gO (cw k) [some (.sh (bc ps)),some (.sh (.int N)),none,none,none])=_;unfold gO;rw[sk (by simp[k1,jg,bK,bI])];unfold mR;rw[aS (ρ':=[some (.sh (bc ps)),some (.sh (.int N)),some (.ow []),none,none]) (by simp)];unfold mV
     have hf:iP 3 4 (mOp aN (ai 0) (mC (.int 1))) (cQ (cw k)) [some (.sh (bc ps)),some (.sh (.int N)),some (.ow []),none,none]=fQ 3 4 (cQ (cw k)) (az ps) [some (.sh (bc ps)),some (.sh (.int N)),some (.ow []),none,none]:=by simp[iP,jJ]
     rw[aS (hf.trans e)];simp[mW,fE,l4]
noncomputable def dN(m:Nat):List Nat:=(Nat.toDigits 10 m).map Char.toNat
theorem A5(m:Nat):(Str.ofString (toString ((m:Nat):Int))).cps.toList=dN m:=by
 rw[Str.ofString_eq_toList]
 have:(toString ((m:Nat):Int)).toList=Nat.toDigits 10 m:=by
  show(Nat.repr m).toList=_
  simp[Nat.repr]
 rw[this];rfl
theorem zM(m:Nat):sY (Str.ofString (toString ((m:Nat):Int)))=(dN m).map fun c=>PV.str ⟨#[c]⟩:=by
 unfold sY;rw[A5]
theorem Am(m:Nat):(Nat.toDigits 10 m).length<=m+1:=by
 induction m using Nat.strongRecOn with
 | _ m ih=>
   by_cases h:m<10
   . rw[Nat.toDigits_of_lt_base h];simp
   . have:=ih (m/10) (by omega);rw[Nat.toDigits_of_base_le (by decide) (by omega)];simp;omega
theorem AH(m:Nat)(h:m<100000):((m:Nat):Int).natAbs.log2<1920:=by
 have e:((m:Nat):Int).natAbs=m:=by omega
 rw[e]
 by_cases h0:m=0
 . subst h0;decide
 . have:=(Nat.log2_lt h0 (k:=17)).mpr (by omega);omega
theorem yy(m:Nat)(h:m<10000)(ma:ah->OE)(ρ:ah)(ha:ma ρ=.ok (.sh (.int (m:Int)))):
  sT (mUn q9 ma) [] iF ρ=.ok (.fr (((dN m).map fun c:Nat=>(c:Int)).map .int)):=by
 have h2:(dN m).length<=lim:=by
  have:=Am m;exact aG (by unfold dN;rw[List.length_map];omega)
 have e1:(mUn q9 ma) ρ=.ok (.sh (.str (Str.ofString (toString (m:Int))))):=by
  have:q9 (.int m)=some (.sh (.str (Str.ofString (toString (m:Int))))):=if_pos (AH m (by omega))
  simp[ha,this]
 have hel:cf iF [] ((dN m).map fun c=>PV.str ⟨#[c]⟩)=.ok ((dN m).map fun c:Nat=>PV.int (c:Int)):=sH _ fun c _=>by
  have:xG (.str ⟨#[c]⟩)=some (.sh (.int ((⟨#[c]⟩:Str).cps.getD 0 0:Nat))):=rfl
  simp[iF,this]
 rw[t9,e1];simp only[OE.bind,RV.pv,zM,dg,List.map_nil,hel];simp[noX,h2]
abbrev WW:=List (List Int)×PV
noncomputable def wP(w:WW):PV:=.tup [.tup (tps w.1),w.2]
noncomputable abbrev wE(v:PV)(L:List PV)(a:Int)(A B C D E:Option Sl):ah:=[some (.sh v),some (.ow L),some (.sh (.int a)),A,B,C,D,E]
theorem oW(ns:List (List Int))(h:ns.length<=1000)(q:List Int):bR (.tup (tps ns)) (.tup [nmP q])=some (.sh (.tup (tps (ns++[q])))):=by
 have l:(tps ns).length+1<=lim:=aG (by simp;omega)
 show(if(tps ns).length+1<=lim then _ else _)=_
 rw[if_pos l];simp
theorem Ab(v:PV)(ns:List (List Int))(hns:ns.length<=1000)(vs:List PV)(hv:vs.length<=1000)(a:Int)(C E:Option Sl):∀(n j:Nat) (L:List PV) (D:Option Sl),j+n=vs.length->L.length+n<=10000 ->
  ∃(ks:List WW) (D':Option Sl),cG 6 fV ((List.range' j n).map fun k:Nat=>.int k) (wE v L a (some (.sh (.tup (tps ns)))) (some (.sh (b0 vs))) C D E)=.nx (wE v (L++ks.map wP) a (some (.sh (.tup (tps ns)))) (some (.sh (b0 vs))) C D' E) /\ ks.map (·.2)=vs.drop j /\ ∀ k∈ks,∃ q,k.1=ns++[q]:=by
 intro n
 induction n with
 |zero=>intro j L D h _;exact⟨[],D,by simp,by rw[List.drop_of_length_le (by omega)];rfl,fun k hk=>by cases hk⟩
 | succ n ih=>
   intro j L D h hL
   have hj:j<vs.length:=by omega
   have e1:atP vs (j:Int)=some vs[j]:=by rw[jU _ _ (by omega),Int.toNat_natCast];exact List.getElem?_eq_getElem hj
   have hd:vs.drop j=vs[j] ::vs.drop (j+1):=(List.getElem_cons_drop hj).symm
   have l1:1<=lim:=aG (by omega)
   have l4:2<=lim:=aG (by omega)
   have lL:L.length<lim:=Nat.lt_of_lt_of_le (Nat.lt_succ_self _) (aG (by omega))
   obtain⟨q,hq⟩:∃ q:List Int,q=(dN j).map fun c:Nat=>(c:Int):=⟨_,rfl⟩
   have hcat:=oW ns hns q;have hc:=yy j (by omega) (ai 6) (wE v L a (some (.sh (.tup (tps ns)))) (some (.sh (b0 vs))) C (some (.sh (.int j))) E) rfl;rw[<- hq]at hc
   obtain⟨T,hT⟩:∃ T,T=tps ns:=⟨_,rfl⟩
   have hb:fV ((wE v L a (some (.sh (.tup (tps ns)))) (some (.sh (b0 vs))) C D E).set 6 (some (.sh (.int j))))=.nx (wE v (L++[wP (ns++[q],vs[j])]) a (some (.sh (.tup (tps ns)))) (some (.sh (b0 vs))) C (some (.sh (.int j))) E):=by
    show fV (wE v L a (some (.sh (.tup (tps ns)))) (some (.sh (b0 vs))) C (some (.sh (.int j))) E)=_;show _=OS.nx (wE v (L++[.tup [.tup (tps (ns++[q])),vs[j]]]) a (some (.sh (.tup (tps ns)))) (some (.sh (b0 vs))) C (some (.sh (.int j))) E)
    generalize tps (ns++[q])=T2 at hcat ⊢
    rw[<- hT]at hcat hc ⊢
    unfold fV;simp -implicitDefEqProofs [-t9,hc,fE,l1,l4,hcat,e1,lL]
   rw[List.range'_succ,List.map_cons,gc hb];obtain⟨ks,D',e,h1,h2⟩:=ih (j+1) (L++[wP (ns++[q],vs[j])]) (some (.sh (.int j))) (by omega) (by simp;omega)
   refine⟨(ns++[q],vs[j]) ::ks,D',?_,by rw[hd,List.map_cons,h1],fun k hk=>?_⟩
   . rw[e,List.append_assoc];rfl
   . rcases List.mem_cons.mp hk with z|z
     . subst z;exact⟨q,rfl⟩
     . exact h2 k z
theorem uG(v:PV)(ns:List (List Int))(hns:ns.length<=1000)(a:Int)(B C D:Option Sl):∀(ps:DT) (L:List PV) (E:Option Sl),L.length+ps.length<=10000 ->
  ∃(ks:List WW) (E':Option Sl),cG 7 eI (az ps) (wE v L a (some (.sh (.tup (tps ns)))) B C D E)=.nx (wE v (L++ks.map wP) a (some (.sh (.tup (tps ns)))) B C D E') /\ ks.map (·.2)=ps.map (·.2) /\ ∀ k∈ks,∃ q,k.1=ns++[q]
 |[],L,E,_=>⟨[],E,by simp[az],rfl,fun k hk=>by cases hk⟩
 | p ::ps,L,E,hL=>by
   have l1:1<=lim:=aG (by omega)
   have l4:2<=lim:=aG (by omega)
   have lL:L.length<lim:=Nat.lt_of_lt_of_le (Nat.lt_succ_self _) (aG (by simp at hL;omega))
   have hcat:=oW ns hns p.1
   have hb:eI ((wE v L a (some (.sh (.tup (tps ns)))) B C D E).set 7 (some (.sh (.tup [nmP p.1,p.2]))))=.nx (wE v (L++[wP (ns++[p.1],p.2)]) a (some (.sh (.tup (tps ns)))) B C D (some (.sh (.tup [nmP p.1,p.2])))):=by
    show eI (wE v L a (some (.sh (.tup (tps ns)))) B C D (some (.sh (.tup [nmP p.1,p.2]))))=_;show _=OS.nx (wE v (L++[.tup [.tup (tps (ns++[p.1])),p.2]]) a (some (.sh (.tup (tps ns)))) B C D (some (.sh (.tup [nmP p.1,p.2]))))
    generalize tps (ns++[p.1])=T2 at hcat ⊢
    generalize tps ns=T at hcat ⊢
    unfold eI;simp -implicitDefEqProofs [l1,l4,hcat,lL]
   rw[dU,gc hb];obtain⟨ks,E',e,h1,h2⟩:=uG v ns hns a B C D ps (L++[wP (ns++[p.1],p.2)]) (some (.sh (.tup [nmP p.1,p.2]))) (by simp at hL ⊢;omega)
   refine⟨(ns++[p.1],p.2) ::ks,E',?_,by rw[List.map_cons,List.map_cons,h1],fun k hk=>?_⟩
   . rw[e,List.append_assoc];rfl
   . rcases List.mem_cons.mp hk with z|z
     . subst z;exact⟨p.1,rfl⟩
     . exact h2 k z
theorem xY{W m:Nat}(hW:W<=1000)(v:PV)(L:List PV)(a:Int)(w:WW)(hat:atP L a=some (wP w))(hns:w.1.length<=1000)(g:Gd W m w.2)(hL:L.length+(kids w.2).length<=10000)(A B C D E:Option Sl):
  ∃(ks:List WW) (A' B' C' D' E':Option Sl),fe (wE v L a A B C D E)=.nx (wE v (L++ks.map wP) (a+1) A' B' C' D' E') /\ ks.map (·.2)=kids w.2 /\ ∀ k∈ks,∃ q,k.1=w.1++[q]:=by
 obtain⟨ns,x⟩:=w
 have h0:∀ K:String,bj (cx (mIs "tuple" (ai 4))) (ba 5 (mOp aN (ai 4) (mC (.int 0)))) aY (wE v L a (some (.sh (.tup (tps ns)))) (some (.sh x)) (some (.sh (.str (Str.ofString "")))) D E)=.nx (wE v L a (some (.sh (.tup (tps ns)))) (some (.sh x)) (some (.sh (.str (Str.ofString K)))) D E) ->
   fe (wE v L a A B C D E)=(aR (bj (aI (mOp bM (ai 5) (mC (.str "row")))) (i9 6 (mUn fq (mOp aN (ai 4) (mC (.int 1)))) fV) aY) (aR (bj (aI (mOp bM (ai 5) (mC (.str "fields")))) (gP 7 (mOp aN (ai 4) (mC (.int 1))) eI) aY) (ba 2 (mOp eT (ai 2) (mC (.int 1)))))) (wE v L a (some (.sh (.tup (tps ns)))) (some (.sh x)) (some (.sh (.str (Str.ofString K)))) D E):=fun K hK=>by
  unfold fe
  have hat':atP L a=some (.tup [.tup (tps ns),x]):=hat
  generalize tps ns=T at hat' hK ⊢
  rw[aS (ρ':=wE v L a (some (.sh (.tup T))) B C D E) (by simp[hat']),aS (ρ':=wE v L a (some (.sh (.tup T))) (some (.sh x)) C D E) (by simp[hat']),aS (ρ':=wE v L a (some (.sh (.tup T))) (some (.sh x)) (some (.sh (.str (Str.ofString "")))) D E) (by simp),aS hK]
 have hlast:∀(L':List PV) (A' B' C' D' E':Option Sl),ba 2 (mOp eT (ai 2) (mC (.int 1))) (wE v L' a A' B' C' D' E')=.nx (wE v L' (a+1) A' B' C' D' E'):=fun L' A' B' C' D' E'=>by simp
 have hleaf:∀ K:String,K ≠ "row" -> K ≠ "fields" -> bj (cx (mIs "tuple" (ai 4))) (ba 5 (mOp aN (ai 4) (mC (.int 0)))) aY (wE v L a (some (.sh (.tup (tps ns)))) (some (.sh x)) (some (.sh (.str (Str.ofString "")))) D E)=.nx (wE v L a (some (.sh (.tup (tps ns)))) (some (.sh x)) (some (.sh (.str (Str.ofString K)))) D E)->kids x=[]->∃(ks:List WW) (A' B' C' D' E':Option Sl),fe (wE v L a A B C D E)=.nx (wE v (L++ks.map wP) (a+1) A' B' C' D' E') /\ ks.map (·.2)=kids x /\ ∀ k∈ks,∃ q,k.1=ns++[q]:=fun K h1 h2 hK hk=>
  ⟨[],some (.sh (.tup (tps ns))),some (.sh x),some (.sh (.str (Str.ofString K))),D,E,by rw[h0 K hK,sk (by simp[bS,h1]),sk (by simp[bS,h2]),hlast,List.map_nil,List.append_nil],by rw[hk];rfl,fun k hk=>by cases hk⟩
 rcases g.cs with h|⟨m,vs,rfl,hx,hl,h⟩|⟨m,ps,rfl,hx,hl,hn,h⟩
 . have hk:=oD x h
   rcases h with h|⟨b,h⟩|⟨a,p,h,_⟩|⟨cs,h,_⟩<;>dsimp only at h<;>subst h
   . exact hleaf "" (by decide) (by decide) (by simp[mIs,isP]) hk
   . exact hleaf "" (by decide) (by decide) (by simp[mIs,isP]) hk
   . exact hleaf "number" (by decide) (by decide) (by simp[mIs]) hk
   . exact hleaf "text" (by decide) (by decide) (by simp[mIs]) hk
 . dsimp only at hx
   subst hx
   rw[lA]at hL ⊢
   obtain⟨ks,D',e,h1,h2⟩:=Ab v ns hns vs (by omega) a (some (.sh (.str (Str.ofString "row")))) E vs.length 0 L D (by omega) hL
   refine⟨ks,some (.sh (.tup (tps ns))),some (.sh (b0 vs)),some (.sh (.str (Str.ofString "row"))),D',E,?_,by rw[h1];rfl,h2⟩
   rw[h0 "row" (by simp[mIs]),mX,pZ (by simp[bS]),og (j:=(vs.length:Int)) (by simp) (by omega),Int.toNat_natCast,su,e,j4,sk (by simp[bS]),hlast]
 . dsimp only at hx
   subst hx
   rw[kH]at hL ⊢
   obtain⟨ks,E',e,h1,h2⟩:=uG v ns hns a (some (.sh (bc ps))) (some (.sh (.str (Str.ofString "fields")))) D ps L E (by simpa using hL)
   have hf:gP 7 (mOp aN (ai 4) (mC (.int 1))) eI (wE v L a (some (.sh (.tup (tps ns)))) (some (.sh (bc ps))) (some (.sh (.str (Str.ofString "fields")))) D E)=cG 7 eI (az ps) (wE v L a (some (.sh (.tup (tps ns)))) (some (.sh (bc ps))) (some (.sh (.str (Str.ofString "fields")))) D E):=by
    simp[gP,jJ]
   refine⟨ks,some (.sh (.tup (tps ns))),some (.sh (bc ps)),some (.sh (.str (Str.ofString "fields"))),D,E',?_,h1,h2⟩
   rw[h0 "fields" (by simp[mIs]),sk (by simp[bS]),mX,pZ (by simp[bS]),hf,e,j4,hlast]
theorem Bu{W m:Nat}(v:PV)(g:Gd W m v)(hm:m<=64):sz 64 v=1+((kids v).map (sz 64)).sum:=by
 rw[iM m 64 v g hm,<- iM m 65 v g (by omega)];rfl
noncomputable def Qd(W:Nat)(w:WW):Prop:=∃ m,Gd W m w.2 /\ w.1.length+m<=64
theorem xu{W:Nat}(hW:W<=1000)(v:PV):∀(n:Nat) (dn ws:List WW) (F:Nat) (A B C D E:Option Sl),(∀ w∈dn,Qd W w)->(∀ w∈ws,Qd W w)->(ws.map fun w=>sz 64 w.2).sum=n->dn.length+n<=1000 ->
  ∃(L:List WW) (a:Int) (A' B' C' D' E':Option Sl),gW eH fe (F+n+1) (wE v ((dn++ws).map wP) (dn.length:Nat) A B C D E)=.nx (wE v (L.map wP) a A' B' C' D' E') /\ (∀ w∈L,Qd W w) /\ dn.length<=L.length /\ (ws≠[]->L≠[]):=by
 intro n
 induction n with
 | zero=>
   intro dn ws F A B C D E hd hw hn hl
   cases ws with
   |cons w ws=>have:=tB 64 w.2;simp at hn;omega
   | nil=>
     refine⟨dn,(dn.length:Nat),A,B,C,D,E,?_,hd,Nat.le_refl _,fun h=>absurd rfl h⟩
     have hc:eH (wE v ((dn++[]).map wP) (dn.length:Nat) A B C D E)=.ok false:=by simp[eH]
     unfold gW;rw[hc];simp
 | succ n ih=>
   intro dn ws F A B C D E hd hw hn hl
   cases ws with
   |nil=>simp at hn
   | cons w ws=>
     obtain⟨m,g,hm⟩:=hw w (by simp);have hk:=Bu w.2 g (by omega);have hkl:=qc (sz 64) (tB 64) (kids w.2)
     have hwl:ws.length<=(ws.map fun w=>sz 64 w.2).sum:=by
      have:=qc (sz 64) (tB 64) (ws.map (·.2))
      simpa [List.map_map,Function.comp_def]using this
     simp only[List.map_cons,List.sum_cons]at hn
     have hat:atP ((dn++w ::ws).map wP) ((dn.length:Nat):Int)=some (wP w):=by
      rw[jU _ _ (by omega),Int.toNat_natCast];simp
     obtain⟨ks,A1,B1,C1,D1,E1,e,h1,h2⟩:=xY hW v ((dn++w ::ws).map wP) (dn.length:Nat) w hat (by omega) g (by simp;omega) A B C D E
     have hsum:(ks.map fun w=>sz 64 w.2).sum=((kids w.2).map (sz 64)).sum:=by rw[<- h1,List.map_map];rfl
     obtain⟨L,a,A',B',C',D',E',e2,q,hle,_⟩:=ih (dn++[w]) (ws++ks) F A1 B1 C1 D1 E1 (fun x hx=>by
       rcases List.mem_append.mp hx with z|z
       . exact hd x z
       . have:x=w:=by simpa using z
         subst this;exact hw x (by simp)) (fun x hx=>by
       rcases List.mem_append.mp hx with z|z
       . exact hw x (by simp[z])
       . obtain⟨q,hq⟩:=h2 x z
         have hmem:x.2∈kids w.2:=by rw[<- h1];exact List.mem_map_of_mem z
         cases m with
         |zero=>rw[oD w.2 g]at hmem;cases hmem
         |succ m=>exact⟨m,g.kids x.2 hmem,by rw[hq];simp;omega⟩) (by rw[List.map_append,List.sum_append,hsum];omega) (by simp;omega)
     refine⟨L,a,A',B',C',D',E',?_,q,by simp at hle;omega,fun _ hL=>by subst hL;simp at hle⟩
     have hc:eH (wE v ((dn++w ::ws).map wP) (dn.length:Nat) A B C D E)=.ok true:=by
      simp[eH];omega
     rw[show F+(n+1)+1=(F+n+1)+1 by omega]
     show(eH _).bU _ _=_
     rw[hc,vB];simp only[if_true];rw[e,oj]
     have e3:(dn++w ::ws).map wP++ks.map wP=((dn++[w])++(ws++ks)).map wP:=by simp
     have e4:((dn.length:Nat):Int)+1=(((dn++[w]).length:Nat):Int):=by simp
     rw[e3,e4];exact e2
theorem C2{W:Nat}(hW:W<=1000)(v:PV)(g:Gd W 64 v)(hs:sz 64 v<=900):∃ L:List WW,gG [v]=.ok (.fr (L.map wP)) /\ L≠[] /\ ∀ w∈L,w.1.length<=64:=by
 obtain⟨F,hF⟩:∃ F,fuel=F+sz 64 v+1:=⟨fuel - (sz 64 v+1),by have:10001<=fuel:=(by decide);omega⟩
 obtain⟨L,a,A',B',C',D',E',e,q,hle,hne⟩:=xu hW v (sz 64 v) [] [([],v)] F none none none none none (fun w h=>by cases h) (fun w hw=>by
  have:w=([],v):=by simpa using hw
  subst this;exact⟨64,g,by simp⟩) (by simp) (by simp;omega)
 refine⟨L,?_,hne (by simp),fun w hw=>by obtain⟨m,_,h⟩:=q w hw;omega⟩
 rw[<- hF]at e
 replace e:gW eH fe fuel (wE v [wP ([],v)] 0 none none none none none)=.nx (wE v (L.map wP) a A' B' C' D' E'):=e
 have l1:1<=lim:=aG (by omega)
 have l4:2<=lim:=aG (by omega)
 show fin (nh [some (.sh v),none,none,none,none,none,none,none])=_;unfold nh;rw[aS (ρ':=[some (.sh v),some (.ow [wP ([],v)]),none,none,none,none,none,none]) (by simp[wP,l1,l4])];unfold oF;rw[aS (ρ':=wE v [wP ([],v)] 0 none none none none none) (by simp)];unfold oq;rw[aS e];simp[ov]
@[simp] theorem Gv(i j:Int):bM (.int i) (.int j)=some (.sh (.bl (decide (i=j)))):=by
  have:(i==j)=decide (i=j):=by by_cases h:i=j<;>simp[h]
  simp[bM,bK,bI,this]
theorem qh(n:Nat):bH [.int n]=.ok (.sh (.tup ((PJ.named n).map .int))):=by
 by_cases h:n<6
 . have hh:n=0 \/ n=1 \/ n=2 \/ n=3 \/ n=4 \/ n=5:=by omega
   rcases hh with h|h|h|h|h|h<;>subst h<;>simp[lj,bH,PJ.named]
 . have h':¬ (n:Int)<6:=by omega
   simp[lj,bH,PJ.named,h']
theorem As(n:Int):bf [.int n]=.ok (.sh (PJ.small n)):=by
 unfold PJ.small
 by_cases h1:n%6<3
 . have hh:n%6=0 \/ n%6=1 \/ n%6=2:=by omega
   rcases hh with h|h|h<;>simp[cE,cB,cD,cz,cA,cZ,bf,h]
 . by_cases h2:n%6=3
   . have hh:n/6%4=0 \/ n/6%4=1 \/ n/6%4=2 \/ n/6%4=3:=by omega
     rcases hh with h|h|h|h<;>simp[cE,cB,cD,cz,cA,cZ,bf,h2,h]
   . by_cases h3:n%6=4
     . simp[cE,cB,cD,cz,cA,cZ,bf,h3]
     . by_cases h4:n/6%2=0
       . simp[cE,cB,cD,cz,cA,cZ,bf,h1,h2,h3,h4]
       . have h5:n/6%2=1:=by omega
         simp[cE,cB,cD,cz,cA,cZ,bf,h1,h2,h3,h5]
noncomputable def tF(fs:List PJ.Fr):OV:=.ol (fs.map PJ.jk)
theorem wG(fs:List PJ.Fr)(f:PJ.Fr):tF (fs++[f])=.ol (fs.map PJ.jk++[.ol [.sh (PJ.kindS f.1),.ol ((PJ.items f).map .sh)]]):=by simp[tF,PJ.jk]
theorem qg(x:PV):bB [.tr true (tF []),.sh x]=.ok .non [some (tF []),none]:=by
 have ht:=nE (ρ:=[some (.tr true (tF [])),some (.sh x)]) (i:=0) (io:=true) (ts:=[]) rfl;simp[bB,eG,fnI,kY,p9,nM,ht]
theorem uP(fs:List PJ.Fr)(b:Bool)(vs:List PJ.JV)(v:PJ.JV)(hl:vs.length<1000):bB [.tr true (tF (fs++[(b,vs)])),.sh (PJ.enc v)]=.ok .non [some (tF (fs++[(b,vs++[v])])),none]:=by
 rw[wG,wG,PJ.ve];have hil:=PJ.br (b,vs)
 have hlt:((PJ.items (b,vs)).map OV.sh).length<lim:=by simp[hil];exact zl (by omega)
 let ρ:ah:=[some (.tr true (.ol (fs.map PJ.jk++[.ol [.sh (PJ.kindS b),.ol ((PJ.items (b,vs)).map .sh)]]))),some (.sh (PJ.enc v))]
 have hρ:ρ[0]?=some (some (.tr true (.ol (fs.map PJ.jk++[.ol [.sh (PJ.kindS b),.ol ((PJ.items (b,vs)).map .sh)]])))):=rfl
 have ht:=nE hρ;have h0:=v9 hρ
 have hne:(fs.map PJ.jk++[OV.ol [.sh (PJ.kindS b),.ol ((PJ.items (b,vs)).map .sh)]]).isEmpty=false:=by simp
 rw[hne]at ht
 cases b with
 | false=>
   have ha:=nQ hρ (md:=mD (ai 1)) (y:=.sh (PJ.enc v)) (by simp[ρ,mD]) hlt
   have hc:(dB (dW 0 bL) (aI (mOp bM (jH 0 (pIx 0 (pIx 0 bL (mUn j2 (mC (.int 1)))) (mC (.int 0)))) (mC (.str "row"))))) ρ=.ok true:=by
    simp only[dB,ht,OT.eD,aI,mOp,h0,OE.bind,OE.eD,mC,RV.pv,PJ.iS];rfl
   have hm:eG ρ=.nx (ρ.set 0 (some (.tr true (.ol (fs.map PJ.jk++[.ol [.sh (PJ.kindS false),.ol ((PJ.items (false,vs)).map .sh++[.sh (PJ.enc v)])]]))))):=by
    unfold eG bj;rw[hc];exact ha
   show p9 2 (eG ρ)=_;rw[hm];simp[p9,ρ,nM]
 | true=>
   have hlen:=xO hρ
   have hmd:(mD (bC (ag (aH bH (ag (pN 0 (pIx 0 (pIx 0 bL (mUn j2 (mC (.int 1)))) (mC (.int 1)))) ax)) (ag (ai 1) ax)))) ρ=.ok (.sh (PJ.mem (PJ.named (vs.length:Int)) (PJ.enc v))):=by
    have e1:(ag (pN 0 (pIx 0 (pIx 0 bL (mUn j2 (mC (.int 1)))) (mC (.int 1)))) ax) ρ=.ok [.int vs.length]:=by
     simp only[ag,hlen,OE.ee,jD,ax,OA.ee,List.length_map,hil]
    have e2:(aH bH (ag (pN 0 (pIx 0 (pIx 0 bL (mUn j2 (mC (.int 1)))) (mC (.int 1)))) ax)) ρ=.ok (.sh (.tup ((PJ.named vs.length).map .int))):=by
     unfold aH;rw[e1];exact qh vs.length
    have e3:(ai 1) ρ=.ok (.sh (PJ.enc v)):=rfl
    simp only[mD,bC,ag,e2,e3,OE.ee,jD,ax,OA.ee,OA.bind];rfl
   have ha:=nQ hρ hmd hlt
   have hc:(dB (dW 0 bL) (aI (mOp bM (jH 0 (pIx 0 (pIx 0 bL (mUn j2 (mC (.int 1)))) (mC (.int 0)))) (mC (.str "row"))))) ρ=.ok false:=by
    simp only[dB,ht,OT.eD,aI,mOp,h0,OE.bind,OE.eD,mC,RV.pv,PJ.iS];rfl
   have hm:eG ρ=.nx (ρ.set 0 (some (.tr true (.ol (fs.map PJ.jk++[.ol [.sh (PJ.kindS true),.ol ((PJ.items (true,vs)).map .sh++[.sh (PJ.mem (PJ.named (vs.length:Int)) (PJ.enc v))])]]))))):=by
    unfold eG bj;rw[hc];simp only[OT.bU,ht,Bool.not_false,if_true,Bool.false_eq_true,if_false];exact ha
   show p9 2 (eG ρ)=_;rw[hm];simp[p9,ρ,nM]
noncomputable def F6:List PJ.Fr->List PJ.Fr
 | fs=>match fs.getLast? with
   |none=>[]
   | some f=>match fs.dropLast.getLast? with
     |none=>[]
     |some g=>fs.dropLast.dropLast++[(g.1,g.2++[PJ.gQ f])]
theorem DB(ρ:ah)(i:Nat)(x:PV)(xs:List PV)(h:ρ[i]?=some (some (.tr false (.ol [.sh x,.ol (xs.map .sh)])))):jH i (pIx i bL (mC (.int 0))) ρ=.ok (.sh x) /\ jH i (pIx i bL (mC (.int 1))) ρ=.ok (.al xs):=by
 have ht:dP i ρ=some (.ol [.sh x,.ol (xs.map .sh)]):=by unfold dP;rw[h];rfl
 have h0:pIx i bL (mC (.int 0)) ρ=some [.ix 0]:=by unfold pIx;rw[ht];rfl
 have h1:pIx i bL (mC (.int 1)) ρ=some [.ix 1]:=by unfold pIx;rw[ht];rfl
 constructor
 . unfold jH subAt;rw[ht,h0];rfl
 . unfold jH subAt;rw[ht,h1]
   have hg:(OV.ol [.sh x,.ol (xs.map .sh)]).get [.ix 1]=some (.ol (xs.map .sh)):=rfl
   simp only[hg,xJ]
theorem qY(fs:List PJ.Fr)(f:PJ.Fr)(A B:Option Sl):iT [some (.tr true (tF (fs++[f]))),A,B]=iA [some (.tr true (tF fs)),some (.tr false (PJ.jk f)),some (.sh (PJ.enc (PJ.gQ f)))]:=by
 have hp:=zv (ρ:=[some (.tr true (tF (fs++[f]))),A,B]) (i:=0) (io:=true) (ts:=fs.map PJ.jk) (x:=PJ.jk f) (by simp[tF])
 have hs:jF 1 (qH 0 bL) [some (.tr true (tF (fs++[f]))),A,B]=.nx [some (.tr true (tF fs)),some (.tr false (PJ.jk f)),B]:=by
  unfold jF;rw[hp];rfl
 obtain⟨p0,p1⟩:=DB [some (.tr true (tF fs)),some (.tr false (PJ.jk f)),B] 1 (PJ.kindS f.1) (PJ.items f) rfl;unfold iT;show OS.andThen (jF 1 (qH 0 bL) _) iy=_;rw[hs];show iy _=_;unfold iy;rw[PJ.zU];simp[p0,p1,fE]
theorem zQ(f:PJ.Fr):dH [.tr true (tF [f])]=.ok (PJ.enc (PJ.gQ f)) [some (tF [])]:=by
 show p9 1 (iT [some (.tr true (tF ([]++[f]))),none,none])=_;rw[qY]
 have hc:gH (ef bB [.t 0 bL,.e (ai 2)]) [some (.tr true (tF [])),some (.tr false (PJ.jk f)),some (.sh (PJ.enc (PJ.gQ f)))]=.nx [some (.tr true (tF [])),some (.tr false (PJ.jk f)),some (.sh (PJ.enc (PJ.gQ f)))]:=by
  simp[gH,ef,kJ,rG,bL,qg,dX,g4]
 unfold iA;show p9 1 (OS.andThen (gH (ef bB [.t 0 bL,.e (ai 2)]) _) _)=_;rw[hc];simp[jX,p9,nM]
theorem xM(fs:List PJ.Fr)(b:Bool)(vs:List PJ.JV)(f:PJ.Fr)(hl:vs.length<1000):dH [.tr true (tF (fs++[(b,vs)]++[f]))]=.ok (PJ.enc (PJ.gQ f)) [some (tF (fs++[(b,vs++[PJ.gQ f])]))]:=by
 show p9 1 (iT [some (.tr true (tF ((fs++[(b,vs)])++[f]))),none,none])=_;rw[qY]
 have hc:gH (ef bB [.t 0 bL,.e (ai 2)]) [some (.tr true (tF (fs++[(b,vs)]))),some (.tr false (PJ.jk f)),some (.sh (PJ.enc (PJ.gQ f)))]=.nx [some (.tr true (tF (fs++[(b,vs++[PJ.gQ f])]))),some (.tr false (PJ.jk f)),some (.sh (PJ.enc (PJ.gQ f)))]:=by
  simp[gH,ef,kJ,rG,bL,uP fs b vs (PJ.gQ f) hl,dX,g4]
 unfold iA;show p9 1 (OS.andThen (gH (ef bB [.t 0 bL,.e (ai 2)]) _) _)=_;rw[hc];simp[jX,p9,nM]
noncomputable abbrev cst(s:PV)(b m:Int)(fs:List PJ.Fr)(vh:PV)(K N:Option Sl):ah:=[some (.sh s),some (.sh (.int b)),some (.sh (.int m)),some (.tr false (tF fs)),some (.sh vh),K,N]
theorem oe(s:PV)(b m:Int)(fs:List PJ.Fr)(vh:PV)(K N:Option Sl):dW 3 bL (cst s b m fs vh K N)=.ok (!fs.isEmpty):=by
 have:=nE (ρ:=cst s b m fs vh K N) (i:=3) (io:=false) (ts:=fs.map PJ.jk) rfl;rw[this]
 cases fs<;>rfl
theorem sq(s:PV)(b m:Int)(fs:List PJ.Fr)(vh:PV)(K N:Option Sl)(hne:fs≠[])(k:Nat)(hk:k<900)(I:PJ.rF k fs vh):
  ∃ fs' vh',jF 4 (ef dH [.t 3 bL]) (cst s b m fs vh K N)=.nx (cst s b m fs' vh' K N) /\ PJ.rF k fs' vh' /\ fs'.length<fs.length:=by
 obtain⟨gs,f,rfl⟩:=PJ.qo fs hne
 have hf:PJ.Bts f.2:=I.ok f (by simp)
 have ht:=I.tot;rw[PJ.gF]at ht
 by_cases hg:gs=[]
 . subst hg
   refine⟨[],PJ.enc (PJ.gQ f),?_,⟨fun g hg=>(by cases hg),by simp[PJ.total],fun _ _=>⟨_,rfl,PJ.wZ f hf,?_⟩⟩,by simp⟩
   . have:=zQ f;simp[jF,ef,kJ,rG,bL,this,dX,g4,nio]
   . rw[PJ.rZ];omega
 . obtain⟨hs,⟨b',vs⟩,rfl⟩:=PJ.qo gs hg;rw[PJ.gF]at ht
   dsimp only at ht
   have hl:=PJ.qB vs
   refine⟨hs++[(b',vs++[PJ.gQ f])],PJ.enc (PJ.gQ f),?_,⟨fun g hg=>?_,?_,fun z=>?_⟩,by simp⟩
   . have:=xM hs b' vs f (by omega);simp at this;simp[jF,ef,kJ,rG,bL,this,dX,g4,nio]
   . rcases List.mem_append.mp hg with z|z
     . exact I.ok g (by simp[z])
     . have z':g=(b',vs++[PJ.gQ f]):=by simpa using z
       subst z';exact PJ.uo (I.ok (b',vs) (by simp)) (PJ.wZ f hf)
   . rw[PJ.gF];dsimp only;rw[PJ.n9];simp only[PJ.dJ,PJ.rZ];omega
   . simp at z
theorem wz(ns:List Int)(b m:Int)(fs:List PJ.Fr)(vh:PV)(N:Option Sl)(k:Nat)(hk:k<900)(I:PJ.rF k fs vh):
  ∃ fs' vh' N',eS (cst (.lst (ns.map .int)) b m fs vh (some (.sh (.int k))) N)=.nx (cst (.lst (ns.map .int)) b m fs' vh' (some (.sh (.int k))) N') /\ PJ.rF (k+1) fs' vh':=by
 have h1:∀(X:Option Sl),ba 6 (aH bq (ag (ai 0) (ag (mOp eT (ai 1) (ai 5)) ax))) (cst (.lst (ns.map .int)) b m fs vh (some (.sh (.int k))) X)=.nx (cst (.lst (ns.map .int)) b m fs vh (some (.sh (.int k))) (some (.sh (.int (PG.mix ns (b+k)))))):=fun X=>by simp[cst,cC]
 have hn:=yV ns (b+k);generalize PG.mix ns (b+k)=n at h1 hn;have ht:=oe (.lst (ns.map .int)) b m fs vh (some (.sh (.int k))) (some (.sh (.int n)))
 have hstart:∀ X,eS (cst (.lst (ns.map .int)) b m fs vh (some (.sh (.int k))) X)=(bj (dB (dW 3 bL) (aI (mOp gEq (mOp bX (ai 6) (mC (.int 5))) (mC (.int 1)))))
  (jF 4 (ef dH [.t 3 bL]))
  (bj (jj (dW 3 bL) (aI (mOp gEq (ai 5) (mC (.int 0)))))
  (bj (jj (aI (mOp gGt (mOp bX (ai 6) (mC (.int 5))) (mC (.int 2)))) (dB (aI (mOp gEq (ai 5) (mC (.int 0)))) (aI (mOp gGt (mOp bX (ai 6) (mC (.int 9))) (mC (.int 0))))))
  (fZ 3 bL (mDl (mDc (mD (mOp eZ (dY (ag (mC (.str "row")) (ag (mC (.str "fields")) ax))) (mOp bX (mOp gM (ai 6) (mC (.int 5))) (mC (.int 2))))) (mDc (mD (dY ax)) mDn))))
  (aR (ba 4 (aH bf (ag (mOp gM (ai 6) (mC (.int 7))) ax)))
  (gH (ef bB [.t 3 bL,.e (ai 4)]))))
  aY)) (cst (.lst (ns.map .int)) b m fs vh (some (.sh (.int k))) (some (.sh (.int n)))):=fun X=>by
   unfold eS;show OS.andThen (ba 6 _ _) _=_;rw[h1 X];rfl
 rw[hstart]
 have hsame:PJ.rF k fs vh->0<k->PJ.rF (k+1) fs vh:=fun I hk0=>⟨I.ok,by have:=I.tot;omega,fun z _=>by obtain⟨v,e1,e2,e3⟩:=I.fin z hk0;exact⟨v,e1,e2,by omega⟩⟩
 by_cases hA:fs≠[] /\ n%5=1
 . obtain⟨hne,h5⟩:=hA
   have hie:fs.isEmpty=false:=by cases fs with|nil=>exact absurd rfl hne|cons _ _=>rfl
   rw[hie]at ht;obtain⟨fs',vh',e,I',_⟩:=sq (.lst (ns.map .int)) b m fs vh (some (.sh (.int k))) (some (.sh (.int n))) hne k hk I
   refine⟨fs',vh',some (.sh (.int n)),?_,⟨I'.ok,by have:=I'.tot;omega,fun z hk1=>?_⟩⟩
   . rw[<- e];simp[bj,dB,ht,h5]
   . have hk0:0 < k:=by
      have:=I.tot;obtain⟨gs,f,rfl⟩:=PJ.qo fs hne;rw[PJ.gF]at this;omega
     obtain⟨v,e1,e2,e3⟩:=I'.fin z hk0
     exact⟨v,e1,e2,by omega⟩
 . by_cases hB:fs≠[] \/ k=0
   . have hcA:(dB (dW 3 bL) (aI (mOp gEq (mOp bX (ai 6) (mC (.int 5))) (mC (.int 1))))) (cst (.lst (ns.map .int)) b m fs vh (some (.sh (.int k))) (some (.sh (.int n)))) = .ok false:=by
      cases hf:fs.isEmpty with
      |true=>rw[hf]at ht;simp[dB,ht]
      | false=>
        rw[hf]at ht
        have h5:n%5≠1:=fun z=>hA ⟨(by intro w;rw[w]at hf;cases hf),z⟩
        simp[dB,ht,h5]
     have hcB:(jj (dW 3 bL) (aI (mOp gEq (ai 5) (mC (.int 0))))) (cst (.lst (ns.map .int)) b m fs vh (some (.sh (.int k))) (some (.sh (.int n))))=.ok true:=by
      cases hf:fs.isEmpty with
      |false=>rw[hf]at ht;simp[jj,ht]
      | true=>
        rw[hf]at ht
        have hk0:k=0:=by
         rcases hB with z|z
         . rw[List.isEmpty_iff]at hf;exact absurd hf z
         . exact z
        unfold jj;rw[ht];simp[hk0]
     by_cases hP:n%5>2 \/ (k=0 /\ n%9>0)
     . have hcP:(jj (aI (mOp gGt (mOp bX (ai 6) (mC (.int 5))) (mC (.int 2)))) (dB (aI (mOp gEq (ai 5) (mC (.int 0)))) (aI (mOp gGt (mOp bX (ai 6) (mC (.int 9))) (mC (.int 0)))))) (cst (.lst (ns.map .int)) b m fs vh (some (.sh (.int k))) (some (.sh (.int n)))) = .ok true:=by
        by_cases h2:2<n%5
        . simp[h2]
        . rcases hP with z|⟨z1,z2⟩
          . exact absurd z h2
          . have z2':0<n%9:=z2
            simp[h2,z1,z2']
       have hmd:(mDl (mDc (mD (mOp eZ (dY (ag (mC (.str "row")) (ag (mC (.str "fields")) ax))) (mOp bX (mOp gM (ai 6) (mC (.int 5))) (mC (.int 2))))) (mDc (mD (dY ax)) mDn))) (cst (.lst (ns.map .int)) b m fs vh (some (.sh (.int k))) (some (.sh (.int n))))=.ok (PJ.jk (decide (n/5%2=1),[])):=by
        have hz:n/5%2=0 \/ n/5%2=1:=by omega
        rcases hz with hz|hz<;>simp[mDl,mDc,mD,mDn,hz,PJ.jk,PJ.kindS,PJ.items,PJ.jx]
       have ha:=t8 (ρ:=cst (.lst (ns.map .int)) b m fs vh (some (.sh (.int k))) (some (.sh (.int n)))) (i:=3) (io:=false) (ts:=fs.map PJ.jk) rfl hmd (by
        have:=I.tot;have hfl:=PJ.rQ fs;simp
        exact zl (by omega))
       refine⟨fs++[(decide (n/5%2=1),[])],vh,some (.sh (.int n)),?_,⟨fun g hg=>?_,?_,fun z=>by simp at z⟩⟩
       . simp only[bj,hcA,OT.bU,hcB,hcP,if_true,Bool.false_eq_true,if_false,ha];simp[cst,tF]
       . rcases List.mem_append.mp hg with z|z
         . exact I.ok g z
         . have z':g=(decide (n/5%2=1),[]):=by simpa using z
           subst z';exact trivial
       . rw[PJ.gF];have:=I.tot;simp[PJ.dJ];omega
     . have hcP:(jj (aI (mOp gGt (mOp bX (ai 6) (mC (.int 5))) (mC (.int 2)))) (dB (aI (mOp gEq (ai 5) (mC (.int 0)))) (aI (mOp gGt (mOp bX (ai 6) (mC (.int 9))) (mC (.int 0)))))) (cst (.lst (ns.map .int)) b m fs vh (some (.sh (.int k))) (some (.sh (.int n)))) = .ok false:=by
        have h2:¬ 2<n%5:=fun z=>hP (.inl z)
        by_cases hk0:k=0
        . have h9:¬ 0<n%9:=fun z=>hP (.inr ⟨hk0,z⟩)
          simp[h2,hk0,h9]
        . simp[h2,hk0]
       have hsv:=As (n/7)
       have hs4:ba 4 (aH bf (ag (mOp gM (ai 6) (mC (.int 7))) ax)) (cst (.lst (ns.map .int)) b m fs vh (some (.sh (.int k))) (some (.sh (.int n))))=.nx (cst (.lst (ns.map .int)) b m fs (PJ.small (n/7)) (some (.sh (.int k))) (some (.sh (.int n)))):=by simp[cst,hsv]
       have hred:∀ o,gH (ef bB [.t 3 bL,.e (ai 4)]) (cst (.lst (ns.map .int)) b m fs (PJ.small (n/7)) (some (.sh (.int k))) (some (.sh (.int n))))=o->(bj (dB (dW 3 bL) (aI (mOp gEq (mOp bX (ai 6) (mC (.int 5))) (mC (.int 1))))) (jF 4 (ef dH [.t 3 bL])) (bj (jj (dW 3 bL) (aI (mOp gEq (ai 5) (mC (.int 0))))) (bj (jj (aI (mOp gGt (mOp bX (ai 6) (mC (.int 5))) (mC (.int 2)))) (dB (aI (mOp gEq (ai 5) (mC (.int 0)))) (aI (mOp gGt (mOp bX (ai 6) (mC (.int 9))) (mC (.int 0)))))) (fZ 3 bL (mDl (mDc (mD (mOp eZ (dY (ag (mC (.str "row")) (ag (mC (.str "fields")) ax))) (mOp bX (mOp gM (ai 6) (mC (.int 5))) (mC (.int 2))))) (mDc (mD (dY ax)) mDn)))) (aR (ba 4 (aH bf (ag (mOp gM (ai 6) (mC (.int 7))) ax))) (gH (ef bB [.t 3 bL,.e (ai 4)])))) aY)) (cst (.lst (ns.map .int)) b m fs vh (some (.sh (.int k))) (some (.sh (.int n))))=o:=fun o ho=>(by simp only[bj,hcA,OT.bU,hcB,hcP,if_true,Bool.false_eq_true,if_false,aR,hs4,OS.andThen];exact ho)
       by_cases hf:fs=[]
       . subst hf
         refine⟨[],PJ.small (n/7),some (.sh (.int n)),hred _ ?_,⟨fun g hg=>(by cases hg),by simp[PJ.total],fun _ _=>⟨.lf (PJ.small (n/7)),rfl,⟨_,rfl⟩,by simp[PJ.size]⟩⟩⟩
         simp[gH,ef,kJ,rG,bL,qg,dX,g4]
       . obtain⟨gs,⟨b',vs⟩,rfl⟩:=PJ.qo fs hf
         have ht':=I.tot
         rw[PJ.gF]at ht'
         dsimp only at ht'
         have hl:=PJ.qB vs;have hps:=uP gs b' vs (.lf (PJ.small (n/7))) (by omega)
         refine⟨gs++[(b',vs++[.lf (PJ.small (n/7))])],PJ.small (n/7),some (.sh (.int n)),hred _ ?_,⟨fun g hg=>?_,?_,fun z=>by simp at z⟩⟩
         . have e1:PJ.enc (.lf (PJ.small (n/7)))=PJ.small (n/7):=by simp[PJ.enc]
           rw[e1]at hps;simp[gH,ef,kJ,rG,bL,hps,dX,g4]
         . rcases List.mem_append.mp hg with z|z
           . exact I.ok g (by simp[z])
           . have z':g=(b',vs++[.lf (PJ.small (n/7))]):=by simpa using z
             subst z';exact PJ.uo (I.ok (b',vs) (by simp)) ⟨_,rfl⟩
         . rw[PJ.gF];dsimp only;rw[PJ.n9];simp only[PJ.dJ,PJ.size];omega
   . have hf:fs = []:=by
      by_cases z:fs=[]
      . exact z
      . exact absurd (.inl z) hB
     have hk0:k≠0:=fun z=>hB (.inr z)
     refine⟨fs,vh,some (.sh (.int n)),?_,hsame I (by omega)⟩
     have hie:fs.isEmpty=true:=by rw[hf];rfl
     rw[hie]at ht;simp[bj,dB,jj,ht,hk0]
theorem wy(ns:List Int)(b m:Int)(j:Nat):∀(k:Nat) (fs:List PJ.Fr) (vh:PV) (K N:Option Sl),k+j<900->PJ.rF k fs vh ->
  ∃ fs' vh' K' N',cG 5 eS ((List.range' k j).map fun i:Nat=>PV.int (i:Int)) (cst (.lst (ns.map .int)) b m fs vh K N)=.nx (cst (.lst (ns.map .int)) b m fs' vh' K' N') /\ PJ.rF (k+j) fs' vh':=by
 induction j with
 |zero=>intro k fs vh K N _ I;exact⟨fs,vh,K,N,rfl,I⟩
 | succ j ih=>
   intro k fs vh K N hk I;obtain⟨fs1,vh1,N1,e1,I1⟩:=wz ns b m fs vh N k (by omega) I;obtain⟨fs2,vh2,K2,N2,e2,I2⟩:=ih (k+1) fs1 vh1 (some (.sh (.int k))) N1 (by omega) I1
   refine⟨fs2,vh2,K2,N2,?_,by rw[show k+(j+1)=k+1+j by omega];exact I2⟩
   rw[List.range'_succ,List.map_cons,gc (ρ':=cst (.lst (ns.map .int)) b m fs1 vh1 (some (.sh (.int k))) N1) e1];exact e2
theorem uK(s:PV)(b m:Int)(k:Nat)(hk:k<900)(j:Nat):∀(fs:List PJ.Fr) (vh:PV) (K N:Option Sl) (F:Nat),fs.length<=j->j<F->PJ.rF k fs vh ->
  ∃ vh',gW gi jv F (cst s b m fs vh K N)=.nx (cst s b m [] vh' K N) /\ PJ.rF k [] vh':=by
 induction j with
 | zero=>
   intro fs vh K N F hl hF I
   obtain⟨F,rfl⟩:∃ G,F=G+1:=⟨F - 1,by omega⟩
   have hf:fs=[]:=by cases fs with|nil=>rfl|cons _ _=>simp at hl
   subst hf
   refine⟨vh,?_,I⟩
   have ht:=oe s b m [] vh K N;unfold gW gi;rw[ht];rfl
 | succ j ih=>
   intro fs vh K N F hl hF I
   obtain⟨F,rfl⟩:∃ G,F=G+1:=⟨F - 1,by omega⟩
   by_cases hf:fs=[]
   . subst hf
     refine⟨vh,?_,I⟩
     have ht:=oe s b m [] vh K N;unfold gW gi;rw[ht];rfl
   . obtain⟨fs1,vh1,e1,I1,hlt⟩:=sq s b m fs vh K N hf k hk I;obtain⟨vh2,e2,I2⟩:=ih fs1 vh1 K N F (by omega) (by omega) I1
     refine⟨vh2,?_,I2⟩
     have ht:=oe s b m fs vh K N
     have hie:fs.isEmpty=false:=by cases fs with|nil=>exact absurd rfl hf|cons _ _=>rfl
     rw[hie]at ht;unfold gW
     have hc:gi (cst s b m fs vh K N)=.ok true:=ht
     have hb:jv (cst s b m fs vh K N)=.nx (cst s b m fs1 vh1 K N):=e1
     rw[hc];simp only[OT.bU,if_true,hb,oj];exact e2
theorem xk(ns:List Int)(b:Int)(m:Nat)(h0:0<m)(hm:m<100):∃ v,cm [.lst (ns.map .int),.int b,.int m]=.ok (.sh (PJ.enc v)) /\ PJ.Bt v /\ PJ.size v<=m:=by
 obtain⟨fs,vh,K,N,e1,I1⟩:=wy ns b m m 0 [] .non none none (by omega) ⟨fun f hf=>(by cases hf),by simp[PJ.total],fun _ z=>absurd z (by omega)⟩;rw[Nat.zero_add]at I1;have hl:=PJ.rQ fs;have ht:=I1.tot;obtain⟨vh',e2,I2⟩:=uK (.lst (ns.map .int)) b m m (by omega) 100 fs vh K N fuel (by omega) (by decide) I1;obtain⟨v,rfl,hv,hs⟩:=I2.fin rfl h0
 refine⟨v,?_,hv,hs⟩
 have hr:cO m=(List.range' 0 m).map fun i:Nat=>PV.int (i:Int):=by unfold cO;rw[List.range_eq_range']
 rw[<- hr]at e1
 have hb:-4611686018427387904<=(m:Int) /\ (m:Int)<4611686018427387904:=by omega
 have e3:kX [some (.sh (.lst (ns.map .int))),some (.sh (.int b)),some (.sh (.int m)),none,none,none,none]=.rt (cst (.lst (ns.map .int)) b m [] (PJ.enc v) K N) (.sh (PJ.enc v)):=by
  have hs:pV 3 (mD (dY ax)) [some (.sh (.lst (ns.map .int))),some (.sh (.int b)),some (.sh (.int m)),none,none,none,none]=.nx [some (.sh (.lst (ns.map .int))),some (.sh (.int b)),some (.sh (.int m)),some (.tr false (tF [])),none,none,none]:=by simp[pV,mD,tF]
  have hs4:ba 4 (mC .non) [some (.sh (.lst (ns.map .int))),some (.sh (.int b)),some (.sh (.int m)),some (.tr false (tF [])),none,none,none]=.nx (cst (.lst (ns.map .int)) b m [] .non none none):=by simp
  have hfor:i9 5 (ai 2) eS (cst (.lst (ns.map .int)) b m [] .non none none)=cG 5 eS (cO m) (cst (.lst (ns.map .int)) b m [] .non none none):=by
   simp -implicitDefEqProofs [i9,hb]
  have hret:ja (cst (.lst (ns.map .int)) b m [] (PJ.enc v) K N)=.rt (cst (.lst (ns.map .int)) b m [] (PJ.enc v) K N) (.sh (PJ.enc v)):=by simp[ja]
  simp -implicitDefEqProofs only[kX,mH,mF,mM,mX,hs,j4,hs4,hfor,e1,e2,hret]
 simp -implicitDefEqProofs [cm,e3]
theorem Ac(k:Nat)(h:k<=10):(PJ.names k).Nodup:=by
 have h10:(PJ.names 10).Nodup:=by decide
 have:(PJ.names k).Sublist (PJ.names 10):=List.Sublist.map _ (List.range_sublist.mpr h)
 exact this.nodup h10
theorem o9:∀(ns:List (List Int)) (es:List PV),List.zipWith PJ.mem ns es=az (ns.zip es)
 |[],_=>rfl
 |_ ::_,[]=>rfl
 | n ::ns,e ::es=>by
   show PJ.mem n e ::List.zipWith PJ.mem ns es=PJ.mem n e ::az (ns.zip es);rw[o9 ns es]
mutual
theorem tf:∀(v:PJ.JV) (n:Nat),PJ.Bt v->PJ.size v<=n->n<=10->Gd 10 n (PJ.enc v) /\ sz n (PJ.enc v)<=PJ.size v
 | .lf x,n,h,hs,hn=>by
   obtain⟨k,rfl⟩:=h;have hl:=PJ.uX k
   refine⟨Gd.lf hl,?_⟩
   show sz n (PJ.small k)<=1;rw[iM (W:=0) 0 n _ hl (by omega)];exact Nat.le_refl _
 | .row vs,n,h,hs,hn=>by
   have hs':1+PJ.dJ vs<=n:=hs
   obtain⟨m,rfl⟩:∃ m,n=m+1:=⟨n - 1,by omega⟩
   obtain⟨h1,h2⟩:=ti vs m h (by omega) (by omega);have hl:=PJ.qB vs
   refine⟨.row (by rw[PJ.kO];omega) h1,?_⟩
   show 1+((kids (b0 (PJ.jx vs))).map (sz m)).sum<=1+PJ.dJ vs;rw[lA];omega
 | .fld ns vs,n,h,hs,hn=>by
   obtain⟨rfl,h⟩:=h
   have hs':1+PJ.dJ vs<=n:=hs
   obtain⟨m,rfl⟩:∃ m,n=m+1:=⟨n - 1,by omega⟩
   obtain⟨h1,h2⟩:=ti vs m h (by omega) (by omega);have hl:=PJ.qB vs
   have he:PJ.enc (.fld (PJ.names vs.length) vs)=bc ((PJ.names vs.length).zip (PJ.jx vs)):=by
    show PV.tup [.str "fields",.tup (List.zipWith PJ.mem (PJ.names vs.length) (PJ.jx vs))]=_;rw[o9]
   have hlen:(PJ.names vs.length).length=(PJ.jx vs).length:=by rw[PJ.jR,PJ.kO]
   rw[he]
   refine⟨.fld ?_ ?_ fun p hp=>h1 p.2 (List.of_mem_zip hp).2,?_⟩
   . rw[List.length_zip,hlen,PJ.kO];omega
   . rw[List.map_fst_zip (by omega)];exact Ac _ (by omega)
   . show 1+((kids (bc ((PJ.names vs.length).zip (PJ.jx vs)))).map (sz m)).sum<=1+PJ.dJ vs;rw[kH,List.map_snd_zip (by omega)];omega
theorem ti:∀(vs:List PJ.JV) (n:Nat),PJ.Bts vs->PJ.dJ vs<=n->n<=10->(∀ w∈PJ.jx vs,Gd 10 n w) /\ ((PJ.jx vs).map (sz n)).sum<=PJ.dJ vs
 |[],n,_,_,_=>⟨fun w h=>(by cases h),by simp[PJ.jx]⟩
 | v ::vs,n,h,hs,hn=>by
   have hs':PJ.size v+PJ.dJ vs<=n:=hs
   obtain⟨a1,a2⟩:=tf v n h.1 (by omega) hn;obtain⟨b1,b2⟩:=ti vs n h.2 (by omega) hn
   refine⟨fun w hw=>?_,?_⟩
   . rcases List.mem_cons.mp (show w∈PJ.enc v ::PJ.jx vs from hw)with z|z
     . subst z;exact a1
     . exact b1 w z
   . show(sz n (PJ.enc v) ::(PJ.jx vs).map (sz n)).sum<=PJ.size v+PJ.dJ vs
     rw[List.sum_cons];omega
end
theorem zX{ρ:ah}{ι:List Nat}{mn me:ah->OE}{j:Int}(h1:mn ρ=.ok (.sh (.int j)))(hi:-4611686018427387904<=j /\ j<4611686018427387904):nr mn ι me ρ=noX (cf me (dg ι ρ) (cO j.toNat)):=by
 simp -implicitDefEqProofs [nr,h1,hi]
theorem xA(k:Nat)(es:List PV)(h:es.length=k):((List.range k).map fun j:Nat=>PJ.mem (PJ.named (j:Int)) (es.getD j .non))=List.zipWith PJ.mem (PJ.names k) es:=by
 apply List.ext_getElem
 . rw[List.length_map,List.length_range,List.length_zipWith,PJ.jR,h,Nat.min_self]
 . intro i h1 h2;rw[List.length_map,List.length_range]at h1;rw[List.getElem_map,List.getElem_range,List.getElem_zipWith,List.getD_eq_getElem?_getD,List.getElem?_eq_getElem (show i<es.length by omega)];simp only[PJ.names,List.getElem_map,List.getElem_range,Option.getD_some]
theorem u9(w:List PV)(k:Nat)(x:PV)(q:List Int)(e1:atP w (k:Int)=some x)(e2:bH [.int k]=.ok (.sh (.tup (q.map .int)))):dS [some (.sh (b0 w)),some (.sh (.int k))]=.ok (.sh (PJ.mem q x)):=by
 have l4:2<=lim:=aG (by omega)
 simp -implicitDefEqProofs [dS,e1,e2,PJ.mem,l4]
theorem vN(ns:List Int)(b m:Int)(v:PV)(hcl:cm [.lst (ns.map .int),.int b,.int m]=.ok (.sh v)):b7 [.lst (ns.map .int),.int b,.int m]=fin (eY [some (.sh (.lst (ns.map .int))),some (.sh (.int b)),some (.sh (.int m)),some (.sh v)]):=by
 have hset:ba 3 (aH cm (ag (ai 0) (ag (ai 1) (ag (ai 2) ax)))) [some (.sh (.lst (ns.map .int))),some (.sh (.int b)),some (.sh (.int m)),none]=.nx [some (.sh (.lst (ns.map .int))),some (.sh (.int b)),some (.sh (.int m)),some (.sh v)]:=by
  simp -implicitDefEqProofs [hcl]
 show fin (kl [some (.sh (.lst (ns.map .int))),some (.sh (.int b)),some (.sh (.int m)),none])=_;unfold kl;rw[aS hset]
theorem wa(A B C:Option Sl)(v:PV)(K:String)(hK:K ≠ "row")(hk:aO [v]=.ok (.sh (.str (Str.ofString K)))):fin (eY [A,B,C,some (.sh v)])=.ok (.sh v):=by
 unfold eY;rw[sk (by simp[hk,bS,hK])];simp[kS]
theorem uL(A B C:Option Sl)(es:List PV)(h:es.length<=100):(nr (mUn fq (mOp aN (ai 3) (mC (.int 1)))) [3] dS) [A,B,C,some (.sh (b0 es))]=.ok (.fr (List.zipWith PJ.mem (PJ.names es.length) es)):=by
 have hel:cf dS [some (.sh (b0 es))] (cO es.length)=.ok (List.zipWith PJ.mem (PJ.names es.length) es):=by
  have h1:cf dS [some (.sh (b0 es))] ((List.range es.length).map fun k:Nat=>PV.int (k:Int))=.ok ((List.range es.length).map fun k:Nat=>PJ.mem (PJ.named (k:Int)) (es.getD k .non)):=sH _ fun k hk=>by
   have hk:=List.mem_range.mp hk
   have e1:atP es (k:Int)=some (es.getD k .non):=by
    rw[jU _ _ (by omega),Int.toNat_natCast,List.getElem?_eq_getElem (by omega),List.getD_eq_getElem?_getD,List.getElem?_eq_getElem (by omega)];rfl
   exact u9 es k _ _ e1 (qh k)
  show cf _ _ ((List.range es.length).map fun k:Nat=>PV.int (k:Int))=_;rw[h1,xA es.length es rfl]
 have e0:(mUn fq (mOp aN (ai 3) (mC (.int 1)))) [A,B,C,some (.sh (b0 es))]=.ok (.sh (.int (es.length:Int))):=by simp
 rw[zX e0 (by omega),Int.toNat_natCast]
 have hp:dg [3] [A,B,C,some (.sh (b0 es))]=[some (.sh (b0 es))]:=rfl
 rw[hp,hel];exact if_pos (aG (by rw[List.length_zipWith,PJ.jR];omega))
theorem vn(A B C:Option Sl)(es:List PV)(h:es.length<=100):fin (eY [A,B,C,some (.sh (b0 es))])=.ok (.sh (.tup [.str "fields",.tup (List.zipWith PJ.mem (PJ.names es.length) es)])):=by
 have hc:=uL A B C es h
 have l4:2<=lim:=aG (by omega)
 have hk:=iS es
 have hret:bV (bC (ag (mC (.str "fields")) (ag (mUn fE (nr (mUn fq (mOp aN (ai 3) (mC (.int 1)))) [3] dS)) ax))) [A,B,C,some (.sh (b0 es))]=.rt [A,B,C,some (.sh (b0 es))] (.sh (.tup [.str "fields",.tup (List.zipWith PJ.mem (PJ.names es.length) es)])):=by
  rw[yQ,vT,mj,mj,Ff,hc]
  simp -implicitDefEqProofs only[EO,oY,wA,Ao,E5,fE,AR,CN,vH,yj,List.length_cons,List.length_nil]
  rw[if_pos l4];rfl
 unfold eY;rw[mX,pZ (by simp[hk,bS]),hret];rfl
theorem zd(ns:List Int)(b:Int)(m:Nat)(h0:0<m)(hm:m<=10):∃ v,b7 [.lst (ns.map .int),.int b,.int m]=.ok (.sh v) /\ Gd 10 10 v /\ sz 10 v<=10:=by
 obtain⟨u,hcl,bt,hs⟩:=xk ns b m h0 (by omega);have hgo:=vN ns b m _ hcl
 have hoth:∀ K:String,K ≠ "row" -> aO [PJ.enc u]=.ok (.sh (.str (Str.ofString K)))->∃ v,b7 [.lst (ns.map .int),.int b,.int m]=.ok (.sh v) /\ Gd 10 10 v /\ sz 10 v<=10:=fun K hK hk=>by
  obtain⟨g,hz⟩:=tf u 10 bt (by omega) (by omega)
  exact⟨PJ.enc u,hgo.trans (wa _ _ _ _ K hK hk),g,by omega⟩
 cases u with
 | lf x=>
   obtain⟨k,rfl⟩:=bt;exact hoth "" (by decide) (ik _ (PJ.uX k))
 | fld as vs=>
   refine hoth "fields" (by decide) ?_;show aO [.tup [.str "fields",.tup (List.zipWith PJ.mem as (PJ.jx vs))]]=_;rw[o9];exact oI _
 | row us=>
   have hl:=PJ.qB us
   have hs':1+PJ.dJ us<=m:=hs
   have el:=PJ.kO us;obtain⟨g,hz⟩:=tf (.fld (PJ.names us.length) us) 10 ⟨rfl,bt⟩ (show 1+PJ.dJ us<=10 by omega) (by omega)
   have hz:sz 10 (PJ.enc (.fld (PJ.names us.length) us))<=1+PJ.dJ us:=hz
   refine⟨_,?_,g,by omega⟩
   have h:=hgo.trans (vn _ _ _ (PJ.jx us) (by omega));rw[el]at h;exact h
theorem okT(qs:List (List Int)):bK (.tup (tps qs)) 64=true:=by
 have:=nV (tps qs) 63 fun x hx=>by
  obtain⟨q,_,rfl⟩:=List.mem_map.mp hx;simp[bK,ic]
 simp[bK];exact this
theorem An(xs:List PV)(a b:Option Int):∀ x∈jt xs a b,x∈xs:=fun x hx=>List.mem_of_mem_drop (List.mem_of_mem_take hx)
theorem okC(qs:List (List Int))(a b:Option Int):bK (.tup (jt (tps qs) a b)) 64=true:=by
 have:=nV (jt (tps qs) a b) 63 fun x hx=>by
  obtain⟨q,_,rfl⟩:=List.mem_map.mp (An _ _ _ x hx);simp[bK,ic]
 simp only[bK];exact this
inductive Dd:PV->Prop
 |add (qs:List (List Int)) (new:PV) (g:Gd 300 64 new):Dd (.tup [.str (Str.ofString "add"),.tup (tps qs),new])
 |remove (qs:List (List Int)):Dd (.tup [.str (Str.ofString "remove"),.tup (tps qs)])
 |replace (qs:List (List Int)) (new:PV) (g:Gd 300 64 new):Dd (.tup [.str (Str.ofString "replace"),.tup (tps qs),new])
 |test (qs:List (List Int)) (new:PV) (g:Gd 300 64 new):Dd (.tup [.str (Str.ofString "test"),.tup (tps qs),new])
 |move (qs rs:List (List Int)):Dd (.tup [.str (Str.ofString "move"),.tup (tps qs),.tup (tps rs)])
 |copy (qs rs:List (List Int)):Dd (.tup [.str (Str.ofString "copy"),.tup (tps qs),.tup (tps rs)])
noncomputable def Res(r:List PV):Prop:=r=[] \/ ∃ u,r=[u] /\ Gd 301 128 u
theorem CW(v:PV)(g:Gd 300 64 v)(d:PV)(hd:Dd d):∃ r,bN [v,d]=.ok (.fr r) /\ Res r:=by
 have l1:1<=lim:=aG (by omega)
 have gt:∀ qs,∃ r:Option PV,cL [v,.tup (tps qs)]=.ok (.fr r.toList) /\ ∀ w,r=some w->Gd 300 64 w:=fun qs=>by
  obtain⟨r,h1,h2⟩:=t6 (by omega) qs 64 v g
  exact⟨r,lP h1,h2⟩
 have gr:∀(u:PV) (qs:List (List Int)) (new:PV),Gd 300 64 u->Gd 300 64 new->∃ r,dy [u,.tup (tps qs),new]=.ok (.fr r) /\ Res r:=fun u qs new gu gn=>by
  obtain⟨r,h1,h2⟩:=BJ (W:=300) (b:=64) (by omega) new gn 64 70 u qs (by omega) gu
  exact⟨r,h1,h2⟩
 cases hd with
 | add qs new gn=>
   obtain⟨r,h1,h2⟩:=gr v qs new g gn
   refine⟨r,?_,h2⟩
   generalize tps qs=T at h1;simp -implicitDefEqProofs [bN,dI,bS,h1]
 | remove qs=>
   obtain⟨r,h1,h2,_⟩:=rM (W:=300) (by omega) 64 70 v qs (by omega) g
   have h1:cS [v,.tup (tps qs)]=.ok (.fr r):=h1
   refine⟨r,?_,?_⟩
   . generalize tps qs=T at h1;simp -implicitDefEqProofs [bN,dI,cT,bS,h1]
   . rcases h2 with h2|⟨u,hu,gu⟩
     . exact .inl h2
     . exact .inr ⟨u,hu,gu.mono (by omega) (by omega)⟩
 | replace qs new gn=>
   obtain⟨r,h1,h2,_⟩:=vM (W:=300) (b:=64) (by omega) new gn 64 70 v qs (by omega) g
   have h1:dR [v,.tup (tps qs),new]=.ok (.fr r):=h1
   refine⟨r,?_,?_⟩
   . generalize tps qs=T at h1;simp -implicitDefEqProofs [bN,dI,cT,du,bS,h1]
   . rcases h2 with h2|⟨u,hu,gu⟩
     . exact .inl h2
     . exact .inr ⟨u,hu,gu.mono (by omega) (by omega)⟩
 | test qs new gn=>
   obtain⟨o,h1,h2⟩:=gt qs;generalize tps qs=T at h1
   cases o with
   |none=>exact⟨[],by simp at h1;simp -implicitDefEqProofs [bN,dI,cT,du,eB,eC,bS,h1],.inl rfl⟩
   | some w=>
     obtain⟨b,hb⟩:=By (W:=300) (by omega) 64 70 w new (by omega) (by omega) (h2 w rfl) gn
     have hb:fF [w,new]=.ok (.sh (.bl b)):=hb
     simp at h1
     cases b with
     |true=>exact⟨[v],by simp -implicitDefEqProofs [bN,dI,cT,du,eB,eC,g7,bS,h1,hb,l1],.inr ⟨v,rfl,g.mono (by omega) (by omega)⟩⟩
     |false=>exact⟨[],by simp -implicitDefEqProofs [bN,dI,cT,du,eB,eC,g7,bS,h1,hb,l1],.inl rfl⟩
 | copy qs rs=>
   obtain⟨o,h1,h2⟩:=gt qs;generalize tps qs=T at h1
   cases o with
   |none=>exact⟨[],by simp at h1;simp -implicitDefEqProofs [bN,dI,cT,du,eB,eC,bS,h1],.inl rfl⟩
   | some w=>
     obtain⟨r,h3,h4⟩:=gr v rs w g (h2 w rfl);simp at h1;generalize tps rs=R at h3
     exact⟨r,by simp -implicitDefEqProofs [bN,dI,cT,du,eB,eC,g7,kn,bS,h1,h3],h4⟩
 | move qs rs=>
   obtain⟨o,h1,h2⟩:=gt qs;have ok1:=okC rs none (some ((tps qs).length:Int));have ok2:=okT qs;obtain⟨rw',hw1,hw2,_⟩:=rM (W:=300) (by omega) 64 70 v qs (by omega) g
   have hw1:cS [v,.tup (tps qs)]=.ok (.fr rw'):=hw1
   cases o with
   | none=>
     generalize tps qs=T at h1
     exact⟨[],by simp at h1;simp -implicitDefEqProofs [bN,dI,cT,du,eB,eC,bS,h1],.inl rfl⟩
   | some w=>
     have hgr:∀ u,rw'=[u]->∃ r,dy [u,.tup (tps rs),w]=.ok (.fr r) /\ Res r:=fun u hu=>by
      rcases hw2 with z|⟨u',z,gu⟩
      . rw[z]at hu;cases hu
      . rw[z]at hu;cases hu;exact gr u rs w gu (h2 w rfl)
     have hform:rw'=[] \/ ∃ u,rw'=[u]:=by rcases hw2 with z|⟨u',z,_⟩;exact .inl z;exact .inr ⟨u',z⟩
     simp only[Option.toList_some]at h1;generalize tps qs=T at h1 hw1 ok1 ok2;generalize tps rs=R at hgr ok1
     have hq:bM (.tup (jt R none (some (T.length:Int)))) (.tup T)=some (.sh (.bl (bI (.tup (jt R none (some (T.length:Int)))) (.tup T)))):=by unfold bM;rw[ok1,ok2];rfl
     have hgo:bN [v,.tup [.str (Str.ofString "move"),.tup T,.tup R]]=fin (g6 [some (.sh v),some (.sh (.tup [.str (Str.ofString "move"),.tup T,.tup R])),some (.ow [w]),none]):=by
      simp -implicitDefEqProofs [bN,dI,cT,du,eB,eC,g7,kn,bS,h1]
     rw[hgo]
     have hend:∃ r,fin (iC [some (.sh v),some (.sh (.tup [.str (Str.ofString "move"),.tup T,.tup R])),some (.ow [w]),none])=.ok (.fr r) /\ Res r:=by
      rcases hform with z|⟨u,z⟩
      . subst z
        exact⟨[],by simp -implicitDefEqProofs [iC,jW,hw1],.inl rfl⟩
      . obtain⟨r,h3,h4⟩:=hgr u z;subst z
        exact⟨r,by simp -implicitDefEqProofs [iC,jW,hw1,h3],h4⟩
     by_cases hlt:(T.length:Int)<(R.length:Int)
     . cases hb:bI (.tup (jt R none (some (T.length:Int)))) (.tup T)with
       | true=>
         rw[hb]at hq
         exact⟨[],by simp -implicitDefEqProofs [g6,hlt,cY,nH,hq],.inl rfl⟩
       | false=>
         rw[hb]at hq;obtain⟨r,e,h⟩:=hend
         refine⟨r,?_,h⟩
         unfold g6;rw[sk (by simp -implicitDefEqProofs [hlt,cY,nH,hq]),e]
     . obtain⟨r,e,h⟩:=hend
       refine⟨r,?_,h⟩
       unfold g6;rw[sk (by simp -implicitDefEqProofs [hlt]),e]
theorem vU(q:List Int):p6 (nmP q)=some q:=qp q
theorem AX{d:DT}{q:List Int}(h:q∉d.map (·.1)):(d.any fun p=>decide (p.1=q))=false:=by
 rw[List.any_eq_false];intro p hp
 have:p.1≠q:=fun z=>h (z ▸ List.mem_map_of_mem hp)
 simp[this]
theorem sN{d:DT}{q:List Int}(h:q∉d.map (·.1)):jS d q=d:=by
 unfold jS;rw[List.filter_eq_self];intro p hp
 have:p.1≠q:=fun z=>h (z ▸ List.mem_map_of_mem hp)
 simp[this]
theorem Ds{d:DT}{q:List Int}(h:q∉d.map (·.1)):nO d q=none:=by
 unfold nO
 rw[List.find?_eq_none.mpr fun p hp=>by
  have:p.1≠q:=fun z=>h (z ▸ List.mem_map_of_mem hp)
  simp[this]]
 rfl
theorem zY{d:DT}{q:List Int}(h:q∉d.map (·.1))(u:PV):kx d q u=d++[(q,u)]:=by
 unfold kx;rw[AX h];rfl
theorem yO{d:DT}{q:List Int}(h:q∉d.map (·.1))(u:PV):d.map (fun p=>if p.1=q then(p.1,u)else p)=d:=by
 induction d with
 |nil=>rfl
 | cons p d ih=>
   simp only[List.map_cons,List.mem_cons,not_or]at h;rw[List.map_cons,ih h.2,if_neg fun z=>h.1 z.symm]
theorem qw{pre post:DT}{q:List Int}{w:PV}(h:((pre++(q,w) ::post).map (·.1)).Nodup):q∉pre.map (·.1) /\ q∉post.map (·.1) /\ ((pre++post).map (·.1)).Nodup:=by
 have hs:((pre++post).map (·.1)).Sublist ((pre++(q,w) ::post).map (·.1)):=List.Sublist.map _ (List.Sublist.append_left (List.sublist_cons_self _ _) _)
 refine⟨?_,?_,hs.nodup h⟩
 . rw[List.map_append,List.nodup_append]at h
   exact fun z=>h.2.2 q z q (by simp) rfl
 . rw[List.map_append,List.nodup_append]at h;have:=h.2.1;rw[List.map_cons,List.nodup_cons]at this;exact this.1
theorem i7{pre post:DT}{q:List Int}{w:PV}(h1:q∉pre.map (·.1))(h2:q∉post.map (·.1)):jS (pre++(q,w) ::post) q=pre++post:=by
 have a:=sN h1;have b:=sN h2
 unfold jS at a b ⊢
 rw[List.filter_append,List.filter_cons,a,b];simp
theorem nF{pre post:DT}{q:List Int}{w:PV}(h1:q∉pre.map (·.1)):nO (pre++(q,w) ::post) q=some w:=by
 unfold nO
 rw[List.find?_append,List.find?_eq_none.mpr fun p hp=>by
  have:p.1≠q:=fun z=>h1 (z ▸ List.mem_map_of_mem hp)
  simp[this]]
 simp
theorem vi{pre post:DT}{q:List Int}{w u:PV}(h1:q∉pre.map (·.1))(h2:q∉post.map (·.1)):kx (pre++(q,w) ::post) q u=pre++(q,u) ::post:=by
 unfold kx;rw[if_pos (by simp),List.map_append,List.map_cons,yO h1,yO h2];simp
theorem wO:∀(ps d:DT),((d++ps).map (·.1)).Nodup->ps.foldl (fun d p=>kx d p.1 p.2) d=d++ps
 |[],d,_=>by simp
 | p ::ps,d,h=>by
   have hn:p.1∉d.map (·.1):=by
    obtain⟨q,w⟩:=p
    exact(qw h).1
   rw[List.foldl_cons,zY hn];have:=wO ps (d++[p]) (by simpa using h);rw[this,List.append_assoc];rfl
theorem pP:∀ ps:DT,ni (az ps)=some ps
 |[]=>rfl
 | p ::ps=>by
   rw[dU]
   show(p6 (nmP p.1)).bind (fun k=>(ni (az ps)).map ((k,p.2) ::·))=_
   rw[vU,pP ps];rfl
theorem xV{W n:Nat}(hW:W<=1000){v:PV}(g:Gd W n v):∃ d:DT,cP [v]=.ok (.dt d) /\ (i5 (aI (mOp bM (aH aO (ag (ai 0) ax)) (mC (.str "fields")))) (mOp aN (ai 0) (mC (.int 1))) (bC ax)) [some (.sh v),A,none,none,none,none]=.ok (.sh (.tup (az d))) /\ d.length<=W /\ (d.map (·.1)).Nodup /\ ∀ p∈d,∃ m,n=m+1 /\ Gd W m p.2:=by
 rcases g.cs with h|⟨m,vs,rfl,rfl,hl,h⟩|⟨m,ps,rfl,rfl,hl,hn,h⟩
 . obtain⟨K,hk,h1,h2⟩:=o7 v h;have hk2:=ik v h
   exact⟨[],by simp[cP,fnD,x4,hk,bS,h2,Bb],by simp[hk2,bM,bK,bI,az],by simp,by simp,fun p hp=>by cases hp⟩
 . have hk:=jP "row" [.tup vs];have hk2:=iS vs
   exact⟨[],by simp[cP,fnD,x4,hk,bS,Bb],by simp[hk2,bM,bK,bI,az],by simp,by simp,fun p hp=>by cases hp⟩
 . have hk:=jP "fields" [.tup (az ps)];have hk2:=oI ps;have hil:=br ps
   have l:ps.length<=lim:=aG (by omega)
   have hd:B6 ps=ps:=(wO ps [] (by simpa using hn)).trans (List.nil_append _)
   exact⟨ps,by simp[cP,fnD,x4,hk,bS,tV,pP,hil,l,hd],by simp[hk2,bM,bK,bI],hl,hn,fun p hp=>⟨m,rfl,h p hp⟩⟩
theorem putN(t u:OV):t.put [] u=u:=by unfold OV.put;rfl
noncomputable abbrev mE(x y:PV)(d:DT)(N G:Option Sl):ah:=[some (.sh x),some (.sh y),some (.tr false (.dt d)),N,G]
noncomputable abbrev lE(x y:PV)(d:DT)(N G A:Option Sl):ah:=[some (.sh x),some (.sh y),some (.sh (.tup (az d))),N,G,A]
theorem Cw(rec:List PV->OE)(x y:PV)(d:DT)(q:List Int):dM rec (mE x y d (some (.sh (nmP q))) (some (.sh .non)))=.nx (mE x y (jS d q) (some (.sh (nmP q))) (some (.sh .non))):=by
 have hk:=vU q;unfold dM;rw[pZ (by simp[fK])];unfold sZ sP;simp[bL,OV.get_nil,putN,hk]
theorem B2(rec:List PV->OE)(x y:PV)(d:DT)(q:List Int)(z u:PV)(hz:fK z=false)(hl:d.length<=1000)(hr:rec [(nO d q).getD .non,z]=.ok (.sh u)):dM rec (mE x y d (some (.sh (nmP q))) (some (.sh z)))=.nx (mE x y (kx d q u) (some (.sh (nmP q))) (some (.sh z))):=by
 have hk:=vU q
 have l:d.length<lim:=Nat.lt_of_lt_of_le (Nat.lt_succ_self _) (aG (by omega))
 have hg:pb 2 bL (ai 3) (mE x y d (some (.sh (nmP q))) (some (.sh z)))=.ok (.sh ((nO d q).getD .non)):=by
  unfold pb;rw[sa (t:=.dt d) (sC (s:=.tr false (.dt d)) rfl rfl)];simp[hk]
 unfold dM;rw[vj (by simp[hz])]
 have hc:(aH rec (ag (pb 2 bL (ai 3)) (ag (ai 4) ax))) (mE x y d (some (.sh (nmP q))) (some (.sh z)))=.ok (.sh u):=by
  rw[BK,mj,hg];simp[hr]
 unfold tP;rw[hc];unfold sP;simp[bL,OV.get_nil,putN,hk,l]
theorem Au(x y:PV)(d:DT)(hl:d.length<=1000)(q:List Int)(z:PV)(A:Option Sl):ba 5 (aH bp (ag (bC (ag (mC (.str "fields")) (ag (ai 2) ax))) (ag (ai 3) ax))) (lE x y d (some (.sh (nmP q))) (some (.sh z)) A)=.nx (lE x y d (some (.sh (nmP q))) (some (.sh z)) (some (.sh (.int (fII q d))))):=by
 have l4:2<=lim:=aG (by omega)
 have h:=pe d (by omega) q;simp -implicitDefEqProofs [l4,h]
theorem yE(rec:List PV->OE)(x y:PV)(d:DT)(hl:d.length<=1000)(q:List Int)(A:Option Sl)(hf:fI q d=none):bw rec (lE x y d (some (.sh (nmP q))) (some (.sh .non)) A)=.nx (lE x y d (some (.sh (nmP q))) (some (.sh .non)) (some (.sh (.int (-1))))):=by
 have hi:=Au x y d hl q .non A
 have:fII q d=-1:=by unfold fII;rw[hf]
 rw[this]at hi;unfold bw;rw[aS hi];simp -implicitDefEqProofs [fK]
theorem Gn(rec:List PV->OE)(x y:PV)(d:DT)(hl:d.length<=1000)(q:List Int)(z u:PV)(hz:fK z=false)(A:Option Sl)(hf:fI q d=none)(hr:rec [.non,z]=.ok (.sh u)):bw rec (lE x y d (some (.sh (nmP q))) (some (.sh z)) A)=.nx (lE x y (d++[(q,u)]) (some (.sh (nmP q))) (some (.sh z)) (some (.sh (.int (-1))))):=by
 have l1:1<=lim:=aG (by omega)
 have l4:2<=lim:=aG (by omega)
 have l2:(az d).length+1<=lim:=aG (by rw[br];omega)
 have hi:=Au x y d hl q z A
 have:fII q d=-1:=by unfold fII;rw[hf]
 rw[this]at hi;unfold bw;rw[aS hi]
 dsimp only[lE]
 rw[show az (d++[(q,u)])=az d++[.tup [nmP q,u]] by rw[ez];rfl];simp -implicitDefEqProofs [hz,hr,l1,l4,bR,l2]
theorem yL(rec:List PV->OE)(x y:PV)(pre post:DT)(q:List Int)(w:PV)(hl:(pre++(q,w) ::post).length<=1000)(A:Option Sl)(hf:fI q (pre++(q,w) ::post)=some pre.length):bw rec (lE x y (pre++(q,w) ::post) (some (.sh (nmP q))) (some (.sh .non)) A)=.nx (lE x y (pre++post) (some (.sh (nmP q))) (some (.sh .non)) (some (.sh (.int (pre.length:Nat))))):=by
 have hi:=Au x y _ hl q .non A
 have:fII q (pre++(q,w) ::post)=(pre.length:Nat):=by unfold fII;rw[hf]
 rw[this]at hi
 have h0:(0:Int)<=(pre.length:Int):=by omega
 have e:=br pre;have h1:=o5 (az pre) (.tup [nmP q,w]) (az post);have h2:=oV (az pre) (.tup [nmP q,w]) (az post);rw[e]at h1 h2
 have l2:(az pre).length+(az post).length<=lim:=aG (by rw[br,br];simp at hl;omega)
 unfold bw;rw[aS hi]
 dsimp only[lE]
 rw[ez,dU,ez];simp -implicitDefEqProofs [fK,h0,cY,nH,h1,h2,bR,l2]
theorem GF(rec:List PV->OE)(x y:PV)(pre post:DT)(q:List Int)(w:PV)(hl:(pre++(q,w) ::post).length<=1000)(z u:PV)(hz:fK z=false)(A:Option Sl)(hf:fI q (pre++(q,w) ::post)=some pre.length)(hr:rec [w,z]=.ok (.sh u)):bw rec (lE x y (pre++(q,w) ::post) (some (.sh (nmP q))) (some (.sh z)) A)=.nx (lE x y (pre++(q,u) ::post) (some (.sh (nmP q))) (some (.sh z)) (some (.sh (.int (pre.length:Nat))))):=by
 have hi:=Au x y _ hl q z A
 have:fII q (pre++(q,w) ::post)=(pre.length:Nat):=by unfold fII;rw[hf]
 rw[this]at hi
 have h0:(0:Int)<=(pre.length:Int):=by omega
 have e:=br pre;have h1:=o5 (az pre) (.tup [nmP q,w]) (az post);have h2:=oV (az pre) (.tup [nmP q,w]) (az post);have h3:=zL (az pre) (.tup [nmP q,w]) (az post);rw[e]at h1 h2 h3
 have l1:1<=lim:=aG (by omega)
 have l4:2<=lim:=aG (by omega)
 have l2:(az pre).length+1<=lim:=aG (by rw[br];simp at hl;omega)
 have l3:(az pre).length+1+(az post).length<=lim:=aG (by rw[br,br];simp at hl;omega)
 unfold bw;rw[aS hi]
 dsimp only[lE]
 rw[ez,dU,ez,dU];simp -implicitDefEqProofs [hz,hr,h0,cY,nH,h1,h2,h3,bR,l1,l2,l3,l4]
noncomputable def MI(W n:Nat)(ps d:DT):Prop:=∀ p∈d,Gd (2*W) n p.2 /\ (p.1∈ps.map (·.1)->Gd W n p.2)
theorem MI.tail{W n:Nat}{p:List Int×PV}{ps d:DT}(h:MI W n (p ::ps) d):MI W n ps d:=fun r hr=>⟨(h r hr).1,fun z=>(h r hr).2 (by simp only[List.map_cons,List.mem_cons];exact .inr z)⟩
theorem uA(ra rb:List PV->OE){W n:Nat}(x y:PV)(hrec:∀ a b,Gd W n a->Gd W n b->∃ u,ra [a,b]=.ok (.sh u) /\ rb [a,b]=.ok (.sh u) /\ Gd (2*W) n u)(q:List Int)(z:PV)(ps d:DT)(A:Option Sl)(hl:d.length<=1000)(hd:(d.map (·.1)).Nodup)(hq:q∉ps.map (·.1))(gz:Gd W n z)(I:MI W n ((q,z) ::ps) d):
  ∃(d1:DT) (A':Option Sl),dM ra (mE x y d (some (.sh (nmP q))) (some (.sh z)))=.nx (mE x y d1 (some (.sh (nmP q))) (some (.sh z))) /\ bw rb (lE x y d (some (.sh (nmP q))) (some (.sh z)) A)=.nx (lE x y d1 (some (.sh (nmP q))) (some (.sh z)) A') /\ d1.length<=d.length+1 /\ (d1.map (·.1)).Nodup /\ MI W n ps d1:=by
 have gnon:Gd W n .non:=.lf (.inl rfl)
 cases hz:fK z with
 | true=>
   have:z=.non:=by cases z<;>first|rfl|(simp[fK]at hz)
   subst this
   cases hf:fI q d with
   | none=>
     have hno:=qe q d hf
     refine⟨d,_,?_,yE rb x y d hl q A hf,by omega,hd,I.tail⟩
     rw[Cw,sN hno]
   | some j=>
     obtain⟨pre,w,post,rfl,rfl,_⟩:=nN q d j hf;obtain⟨h1,h2,h3⟩:=qw hd
     refine⟨pre++post,_,?_,yL rb x y pre post q w hl A hf,by simp;omega,h3,fun r hr=>I.tail r (by rcases List.mem_append.mp hr with c|c<;>simp[c])⟩
     rw[Cw,i7 h1 h2]
 | false=>
   cases hf:fI q d with
   | none=>
     have hno:=qe q d hf;obtain⟨u,e1,e2,gu⟩:=hrec .non z gnon gz
     refine⟨d++[(q,u)],_,?_,Gn rb x y d hl q z u hz A hf e2,by simp,?_,fun r hr=>?_⟩
     . rw[B2 ra x y d q z u hz hl (by rw[Ds hno];exact e1),zY hno]
     . rw[List.map_append,List.nodup_append]
       exact⟨hd,by simp,fun a ha b hb=>by
        have:b=q:=by simpa using hb
        subst this
        exact fun c=>hno (c ▸ ha)⟩
     . rcases List.mem_append.mp hr with c|c
       . exact I.tail r c
       . have:r=(q,u):=by simpa using c
         subst this
         exact⟨gu,fun c=>absurd c hq⟩
   | some j=>
     obtain⟨pre,w,post,rfl,rfl,_⟩:=nN q d j hf;obtain⟨h1,h2,h3⟩:=qw hd
     have gw:Gd W n w:=(I (q,w) (by simp)).2 (by simp)
     obtain⟨u,e1,e2,gu⟩:=hrec w z gw gz
     refine⟨pre++(q,u) ::post,_,?_,GF rb x y pre post q w hl z u hz A hf e2,by simp,by simpa using hd,fun r hr=>?_⟩
     . rw[B2 ra x y _ q z u hz hl (by rw[nF h1];exact e1),vi h1 h2]
     . rcases List.mem_append.mp hr with c|c
       . exact I.tail r (by simp[c])
       . rcases List.mem_cons.mp c with c|c
         . subst c
           exact⟨gu,fun c=>absurd c hq⟩
         . exact I.tail r (by simp[c])
theorem pK(ra rb:List PV->OE){W n:Nat}(x y:PV)(hrec:∀ a b,Gd W n a->Gd W n b->∃ u,ra [a,b]=.ok (.sh u) /\ rb [a,b]=.ok (.sh u) /\ Gd (2*W) n u):∀(ps d:DT) (N G N2 G2 A2:Option Sl),d.length+ps.length<=1000->(d.map (·.1)).Nodup->(ps.map (·.1)).Nodup->(∀ p∈ps,Gd W n p.2)->MI W n ps d ->
  ∃(d':DT) (N' G' N2' G2' A2':Option Sl),fQ 3 4 (dM ra) (az ps) (mE x y d N G)=.nx (mE x y d' N' G') /\ fQ 3 4 (bw rb) (az ps) (lE x y d N2 G2 A2)=.nx (lE x y d' N2' G2' A2') /\ d'.length<=d.length+ps.length /\ (d'.map (·.1)).Nodup /\ ∀ p∈d',Gd (2*W) n p.2
 |[],d,N,G,N2,G2,A2,_,hd,_,_,I=>⟨d,N,G,N2,G2,A2,rfl,rfl,by simp,hd,fun p hp=>(I p hp).1⟩
 | (q,z) ::ps,d,N,G,N2,G2,A2,hl,hd,hps,g,I=>by
   rw[List.map_cons,List.nodup_cons]at hps;obtain⟨d1,A',e1,e2,hl1,hd1,I1⟩:=uA ra rb x y hrec q z ps d A2 (by omega) hd hps.1 (g (q,z) (by simp)) I
   have hl':d.length+(ps.length+1)<=1000:=hl
   obtain⟨d',N',G',N2',G2',A2',f1,f2,f3,f4,f5⟩:=pK ra rb x y hrec ps d1 (some (.sh (nmP q))) (some (.sh z)) (some (.sh (nmP q))) (some (.sh z)) A' (by omega) hd1 hps.2 (fun p hp=>g p (by simp[hp])) I1
   refine⟨d',N',G',N2',G2',A2',?_,?_,by simp only[List.length_cons];omega,f4,f5⟩
   . show(dM ra (mE x y d (some (.sh (nmP q))) (some (.sh z)))).turn (fQ 3 4 (dM ra) (az ps))=_
     rw[e1,oj,f1]
   . show(bw rb (lE x y d (some (.sh (nmP q))) (some (.sh z)) A2)).turn (fQ 3 4 (bw rb) (az ps))=_
     rw[e2,oj,f2]
theorem m5(k:Nat)(x y:PV)(K K2:String)(h1:K ≠ "fields")(h2:K2 ≠ "fields")(hk:dG [y]=.ok (.sh (.str (Str.ofString K))))(hk2:aO [y]=.ok (.sh (.str (Str.ofString K2)))):eW (k+1) [x,y]=.ok (.sh y) /\ b5 (k+1) [x,y]=.ok (.sh y):=by
 constructor
 . show fin (kT (eW k) [some (.sh x),some (.sh y),none,none,none])=_;unfold kT;rw[st (ρ':=[some (.sh x),some (.sh y),none,none,none]) (r:=.sh y) (by simp[hk,jg,bK,bI,h1]) (by simp)];rfl
 . show fin (gU (b5 k) [some (.sh x),some (.sh y),none,none,none,none])=_;unfold gU;rw[st (ρ':=[some (.sh x),some (.sh y),none,none,none,none]) (r:=.sh y) (by simp[hk2,jg,bK,bI,h2]) (by simp)];rfl
theorem i2{W:Nat}(hW:W<=400):∀(n k:Nat) (x y:PV),n<k->Gd W n x->Gd W n y->∃ u,eW k [x,y]=.ok (.sh u) /\ b5 k [x,y]=.ok (.sh u) /\ Gd (2*W) n u:=by
 intro n
 induction n with
 | zero=>
   intro k x y hk gx gy
   obtain⟨k,rfl⟩:∃ j,k=j+1:=⟨k - 1,by omega⟩
   obtain⟨K,hk,_,h2⟩:=o7 y gy;obtain⟨e1,e2⟩:=m5 k x y K "" h2 (by decide) hk (ik y gy)
   exact⟨y,e1,e2,gy⟩
 | succ n ih=>
   intro k x y hk gx gy
   obtain⟨k,rfl⟩:∃ j,k=j+1:=⟨k - 1,by omega⟩
   have gy2:Gd (2*W) (n+1) y:=gy.mono (by omega) (Nat.le_refl _)
   rcases gy.cs with h|⟨m,vs,hm,rfl,hl,h⟩|⟨m,ps,hm,rfl,hl,hn,h⟩
   . obtain⟨K,hk,_,h2⟩:=o7 y h;obtain⟨e1,e2⟩:=m5 k x y K "" h2 (by decide) hk (ik y h)
     exact⟨y,e1,e2,gy2⟩
   . obtain⟨e1,e2⟩:=m5 k x (b0 vs) "row" "row" (by decide) (by decide) (jP "row" [.tup vs]) (iS vs)
     exact⟨_,e1,e2,gy2⟩
   . cases hm;obtain⟨d,h1,h2,h3,h4,h5⟩:=xV (A:=some (.sh (bc ps))) (by omega) gx
     have hrec:∀ a b,Gd W n a->Gd W n b->∃ u,eW k [a,b]=.ok (.sh u) /\ b5 k [a,b]=.ok (.sh u) /\ Gd (2*W) n u:=fun a b ga gb=>ih k a b (by omega) ga gb
     have I:MI W n ps d:=fun p hp=>by
      obtain⟨m,hm,g⟩:=h5 p hp;cases hm
      exact⟨g.mono (by omega) (Nat.le_refl _),fun _=>g⟩
     obtain⟨d',N',G',N2',G2',A2',f1,f2,f3,f4,f5⟩:=pK (eW k) (b5 k) x (bc ps) hrec ps d none none none none none (by omega) h4 hn h I;have hk1:=jP "fields" [.tup (az ps)];have hk2:=oI ps
     have l4:2<=lim:=aG (by omega)
     refine⟨bc d',?_,?_,.fld (by omega) f4 f5⟩
     . show fin (kT (eW k) [some (.sh x),some (.sh (bc ps)),none,none,none])=_;unfold kT;rw[sk (by simp[hk1,jg,bK,bI])];unfold qu
       have hs:pV 2 (qE cP (ag (ai 0) ax)) [some (.sh x),some (.sh (bc ps)),none,none,none]=.nx (mE x (bc ps) d none none):=by
        simp[pV,qE,h1]
       rw[aS hs];unfold qM
       have hf:iP 3 4 (mOp aN (ai 1) (mC (.int 1))) (dM (eW k)) (mE x (bc ps) d none none)=fQ 3 4 (dM (eW k)) (az ps) (mE x (bc ps) d none none):=by simp[iP,jJ]
       rw[aS (hf.trans f1)];unfold qP
       have hit:la 2 bL (mE x (bc ps) d' N' G')=.ok (.sh (.tup (az d'))):=by
        unfold la;rw[sa (t:=.dt d') (sC (s:=.tr false (.dt d')) rfl rfl)]
       rw[yQ,vT,mj,mj,hit];simp[l4]
     . show fin (gU (b5 k) [some (.sh x),some (.sh (bc ps)),none,none,none,none])=_;unfold gU;rw[sk (by simp[hk2,jg,bK,bI])];unfold kM
       have hs:ba 2 (i5 (aI (mOp bM (aH aO (ag (ai 0) ax)) (mC (.str "fields")))) (mOp aN (ai 0) (mC (.int 1))) (bC ax)) [some (.sh x),some (.sh (bc ps)),none,none,none,none]=.nx (lE x (bc ps) d none none none):=by
        unfold ba;rw[h2];rfl
       rw[aS hs];unfold lz
       have hf:iP 3 4 (mOp aN (ai 1) (mC (.int 1))) (bw (b5 k)) (lE x (bc ps) d none none none)=fQ 3 4 (bw (b5 k)) (az ps) (lE x (bc ps) d none none none):=by simp[iP,jJ]
       rw[aS (hf.trans f2)];simp[kE,l4]
theorem ug(L:List WW)(hne:L≠[])(N:Int)(hL:∀ w∈L,w.1.length<=64):∃ qs:List (List Int),qs.length<=64 /\ ∃ x,(0:Int)<(L.length:Int) /\ atP (L.map wP) (N%(L.length:Int))=some (.tup [.tup (tps qs),x]):=by
 have hpos:0<L.length:=List.length_pos_iff.mpr hne
 have h0:0<=N%(L.length:Int):=Int.emod_nonneg _ (by omega)
 have h1:N%(L.length:Int)<(L.length:Int):=Int.emod_lt_of_pos _ (by omega)
 have hi:(N%(L.length:Int)).toNat<L.length:=by omega
 refine⟨(L[(N%(L.length:Int)).toNat]).1,hL _ (List.getElem_mem hi),(L[(N%(L.length:Int)).toNat]).2,by omega,?_⟩
 rw[jU _ _ h0,List.getElem?_map,List.getElem?_eq_getElem hi];rfl
theorem extras(N:Int)(hN:0<=N)(i:Int)(hi:0<=i /\ i<6)(q:List Int):∃ xs:List (List Int),xs.length<=1 /\ atP [.tup [],.tup [.tup [.int 48]],.tup [.tup [.int 45]],.tup [nmP q],.tup [.tup [.int (48+N)]],.tup [.tup [.int 48,.int 48]]] i=some (PV.tup (tps xs)):=by
 have hh:i=0 \/ i=1 \/ i=2 \/ i=3 \/ i=4 \/ i=5:=by omega
 rcases hh with h|h|h|h|h|h<;>subst h
 . exact⟨[],by simp,rfl⟩
 . exact⟨[[48]],by simp,rfl⟩
 . exact⟨[[45]],by simp,rfl⟩
 . exact⟨[q],by simp,rfl⟩
 . exact⟨[[48+N]],by simp,rfl⟩
 . exact⟨[[48,48]],by simp,rfl⟩
theorem wJ(a b:List (List Int))(ha:a.length<=1000)(hb:b.length<=10):bR (.tup (tps a)) (.tup (tps b))=some (.sh (.tup (tps (a++b)))):=by
 have l:(tps a).length+(tps b).length<=lim:=aG (by simp;omega)
 show(if(tps a).length+(tps b).length<=lim then _ else _)=_
 rw[if_pos l];simp
noncomputable abbrev dE(ns:List Int)(b:Int)(v:PV)(L:List WW)(Q R:List PV)(N:Int)(X K nw h:Option Sl):ah:=[some (.sh (.lst (ns.map .int))),some (.sh (.int b)),some (.sh v),some (.ow (L.map wP)),some (.sh (.tup Q)),some (.sh (.tup R)),some (.sh (.int N)),X,K,nw,h]
noncomputable def Kd6(K:String):Prop:=K = "add" \/ K = "remove" \/ K = "replace" \/ K = "move" \/ K = "copy" \/ K = "test"
theorem zh(ns:List Int)(b:Int)(v:PV)(g:Gd 300 64 v)(L:List WW)(qs rs:List (List Int))(N:Int)(X:Option Sl)(K:String)(hK:Kd6 K)(new:PV)(gn:Gd 300 64 new):
  ∃ ρ d,cv (dE ns b v L (tps qs) (tps rs) N X (some (.sh (.str (Str.ofString K)))) (some (.sh new)) none)=.rt ρ (.sh d) /\ Dd d:=by
 have l4:2<=lim:=aG (by omega)
 have l3:3<=lim:=aG (by omega)
 obtain⟨o,hg,ho⟩:=t6 (W:=300) (by omega) qs 64 v g;have hg:=lP hg
 obtain⟨Q,hQ⟩:∃ Q,Q=tps qs:=⟨_,rfl⟩
 obtain⟨R,hR⟩:∃ R,R=tps rs:=⟨_,rfl⟩
 rcases hK with rfl|rfl|rfl|rfl|rfl|rfl
 . refine⟨dE ns b v L (tps qs) (tps rs) N X (some (.sh (.str (Str.ofString "add")))) (some (.sh new)) none,_,?_,.add rs new gn⟩
   rw[<- hQ,<- hR];simp -implicitDefEqProofs [cv,bS,l3]
 . refine⟨dE ns b v L (tps qs) (tps rs) N X (some (.sh (.str (Str.ofString "remove")))) (some (.sh new)) none,_,?_,.remove qs⟩
   rw[<- hQ,<- hR];simp -implicitDefEqProofs [cv,dF,bS,l4]
 . refine⟨dE ns b v L (tps qs) (tps rs) N X (some (.sh (.str (Str.ofString "replace")))) (some (.sh new)) none,_,?_,.replace qs new gn⟩
   rw[<- hQ,<- hR];simp -implicitDefEqProofs [cv,dF,eO,bS,l3]
 . refine⟨dE ns b v L (tps qs) (tps rs) N X (some (.sh (.str (Str.ofString "move")))) (some (.sh new)) none,_,?_,.move qs rs⟩
   rw[<- hQ,<- hR];simp -implicitDefEqProofs [cv,dF,eO,fu,jd,bS,l3]
 . refine⟨dE ns b v L (tps qs) (tps rs) N X (some (.sh (.str (Str.ofString "copy")))) (some (.sh new)) none,_,?_,.copy qs rs⟩
   rw[<- hQ,<- hR];simp -implicitDefEqProofs [cv,dF,eO,fu,jd,bS,l3]
 . cases o with
   | none=>
     refine⟨dE ns b v L (tps qs) (tps rs) N X (some (.sh (.str (Str.ofString "test")))) (some (.sh new)) (some (.ow [])),_,?_,.test qs new gn⟩
     rw[<- hQ]at hg;rw[<- hQ,<- hR];simp only[Option.toList_none]at hg;simp -implicitDefEqProofs [cv,dF,eO,fu,bS,l3,hg]
   | some w=>
     obtain⟨u,hu,gu⟩:=yZ (W:=300) (by omega) 64 70 w N (by omega) (ho w rfl)
     have hu:fm [w,.int N]=.ok (.sh u):=hu
     by_cases h5:(0:Int)<N%5
     . refine⟨dE ns b v L (tps qs) (tps rs) N X (some (.sh (.str (Str.ofString "test")))) (some (.sh u)) (some (.ow [w])),_,?_,.test qs u gu⟩
       rw[<- hQ]at hg;rw[<- hQ,<- hR];simp only[Option.toList_some]at hg;simp -implicitDefEqProofs [cv,dF,eO,fu,bS,l3,hg,h5,hu]
     . refine⟨dE ns b v L (tps qs) (tps rs) N X (some (.sh (.str (Str.ofString "test")))) (some (.sh new)) (some (.ow [w])),_,?_,.test qs new gn⟩
       rw[<- hQ]at hg;rw[<- hQ,<- hR];simp only[Option.toList_some]at hg;simp -implicitDefEqProofs [cv,dF,eO,fu,bS,l3,hg,h5]
theorem zV(ns:List Int)(b:Int):∃ v,cm [.lst (ns.map .int),.int (b+4),.int (1+PG.mix ns (b+5)%4)]=.ok (.sh v) /\ Gd 300 64 v:=by
 obtain⟨n4,hn4⟩:∃ n:Nat,PG.mix ns (b+5)%4=n:=⟨(PG.mix ns (b+5)%4).toNat,by omega⟩
 obtain⟨u,hcl,bt,hs⟩:=xk ns (b+4) (1+n4) (by omega) (by omega)
 have hcl2:cm [.lst (ns.map .int),.int (b+4),.int (1+PG.mix ns (b+5)%4)]=.ok (.sh (PJ.enc u)):=by
  rw[hn4,show(1:Int)+(n4:Int)=((1+n4:Nat):Int) by omega];exact hcl
 exact⟨_,hcl2,(tf u 10 bt (by omega) (by omega)).1.mono (by omega) (by omega)⟩
theorem x6(ns:List Int)(k:Int):∃ K:String,Kd6 K /\ atP [PV.str "add",.str "remove",.str "replace",.str "move",.str "copy",.str "test"] (PG.mix ns k%6)=some (.str (Str.ofString K)):=by
 have hh:PG.mix ns k%6=0 \/ PG.mix ns k%6=1 \/ PG.mix ns k%6=2 \/ PG.mix ns k%6=3 \/ PG.mix ns k%6=4 \/ PG.mix ns k%6=5:=by omega
 unfold Kd6
 rcases hh with h|h|h|h|h|h<;>rw[h]
 . exact⟨"add",by simp,rfl⟩
 . exact⟨"remove",by simp,rfl⟩
 . exact⟨"replace",by simp,rfl⟩
 . exact⟨"move",by simp,rfl⟩
 . exact⟨"copy",by simp,rfl⟩
 . exact⟨"test",by simp,rfl⟩
theorem DM(ns:List Int)(b:Int)(v:PV)(g:Gd 300 64 v)(hs:sz 64 v<=300):∃ d,gK [.lst (ns.map .int),.int b,v]=.ok (.sh d) /\ Dd d:=by
 have l1:1<=lim:=aG (by omega)
 have l2:2<=lim:=aG (by omega)
 have l6:6<=lim:=aG (by omega)
 obtain⟨L,hw,hne,hL⟩:=C2 (W:=300) (by omega) v g (by omega);obtain⟨qs,hql,x1,hp,ha1⟩:=ug L hne (PG.mix ns b) hL;obtain⟨rs,hrl,x2,_,ha2⟩:=ug L hne (PG.mix ns (b+1)) hL;have hm2:=yV ns (b+2)
 obtain⟨N,hN⟩:∃ N,N=PG.mix ns (b+2):=⟨_,rfl⟩
 rw[<- hN]at hm2;obtain⟨new,hnew,gn⟩:=zV ns b;obtain⟨K,hK,hKa⟩:=x6 ns (b+3)
 obtain⟨k8,hk8⟩:∃ n:Nat,N/7%8=n:=⟨(N/7%8).toNat,by omega⟩
 obtain⟨j8,hj8⟩:∃ n:Nat,N/15%8=n:=⟨(N/15%8).toNat,by omega⟩
 have hnm:=qh k8;have hnm2:=qh j8;obtain⟨xs,hxl,hxa⟩:=extras (N/7%10) (by omega) (N/70%6) (by omega) (PJ.named k8);obtain⟨ys,hyl,hya⟩:=extras (N/7%10) (by omega) (N/77%6) (by omega) (PJ.named k8);generalize hEX:([.tup [],.tup [.tup [.int 48]],.tup [.tup [.int 45]],.tup [nmP (PJ.named k8)],.tup [.tup [.int (48+N/7%10)]],.tup [.tup [.int 48,.int 48]]]:List PV)=EX at hxa hya;have emix:=cC ns
 have s0:ba 3 (aH gG (ag (ai 2) ax)) [some (.sh (.lst (ns.map .int))),some (.sh (.int b)),some (.sh v),none,none,none,none,none,none,none,none]=.nx [some (.sh (.lst (ns.map .int))),some (.sh (.int b)),some (.sh v),some (.ow (L.map wP)),none,none,none,none,none,none,none]:=by
  simp -implicitDefEqProofs [hw]
 have s1:ba 4 (mOp aN (mOp eZ (ai 3) (mOp bX (aH bq (ag (ai 0) (ag (ai 1) ax))) (mUn fq (ai 3)))) (mC (.int 0))) [some (.sh (.lst (ns.map .int))),some (.sh (.int b)),some (.sh v),some (.ow (L.map wP)),none,none,none,none,none,none,none]=.nx [some (.sh (.lst (ns.map .int))),some (.sh (.int b)),some (.sh v),some (.ow (L.map wP)),some (.sh (.tup (tps qs))),none,none,none,none,none,none]:=by
  generalize tps qs=Q at ha1;simp -implicitDefEqProofs [emix,hp,hne,ha1]
 have s2:ba 5 (mOp aN (mOp eZ (ai 3) (mOp bX (aH bq (ag (ai 0) (ag (mOp eT (ai 1) (mC (.int 1))) ax))) (mUn fq (ai 3)))) (mC (.int 0))) [some (.sh (.lst (ns.map .int))),some (.sh (.int b)),some (.sh v),some (.ow (L.map wP)),some (.sh (.tup (tps qs))),none,none,none,none,none,none]=.nx [some (.sh (.lst (ns.map .int))),some (.sh (.int b)),some (.sh v),some (.ow (L.map wP)),some (.sh (.tup (tps qs))),some (.sh (.tup (tps rs))),none,none,none,none,none]:=by
  generalize tps rs=R at ha2;generalize tps qs=Q;simp -implicitDefEqProofs [emix,hp,hne,ha2]
 have s3:ba 6 (aH bq (ag (ai 0) (ag (mOp eT (ai 1) (mC (.int 2))) ax))) [some (.sh (.lst (ns.map .int))),some (.sh (.int b)),some (.sh v),some (.ow (L.map wP)),some (.sh (.tup (tps qs))),some (.sh (.tup (tps rs))),none,none,none,none,none]=.nx (dE ns b v L (tps qs) (tps rs) N none none none none):=by
  generalize hQ:tps qs=Q;generalize hR:tps rs=R;simp -implicitDefEqProofs [emix,hN,hQ,hR]
 have s4:ba 7 (dY (ag (bC ax) (ag (bC (ag (bC (ag (mC (.int 48)) ax)) ax)) (ag (bC (ag (bC (ag (mC (.int 45)) ax)) ax)) (ag (bC (ag (aH bH (ag (mOp bX (mOp gM (ai 6) (mC (.int 7))) (mC (.int 8))) ax)) ax)) (ag (bC (ag (mUn fE (dY (ag (mOp eT (mC (.int 48)) (mOp bX (mOp gM (ai 6) (mC (.int 7))) (mC (.int 10)))) ax))) ax)) (ag (bC (ag (bC (ag (mC (.int 48)) (ag (mC (.int 48)) ax))) ax)) ax))))))) (dE ns b v L (tps qs) (tps rs) N none none none none)=.nx (dE ns b v L (tps qs) (tps rs) N (some (.ow EX)) none none none):=by
  rw[<- hEX];generalize hQ:tps qs=Q;generalize hR:tps rs=R;simp -implicitDefEqProofs [hk8,hnm,l1,l2,l6,fE,hQ,hR]
 obtain⟨qs',hql',s5⟩:∃ qs':List (List Int),qs'.length<=100 /\ bj (aI (mOp gEq (mOp bX (ai 6) (mC (.int 7))) (mC (.int 0)))) (ba 4 (mOp bR (ai 4) (mOp eZ (ai 7) (mOp bX (mOp gM (ai 6) (mC (.int 70))) (mC (.int 6)))))) aY (dE ns b v L (tps qs) (tps rs) N (some (.ow EX)) none none none)=.nx (dE ns b v L (tps qs') (tps rs) N (some (.ow EX)) none none none):=by
  by_cases h7:N%7=0
  . refine⟨qs++xs,by simp;omega,?_⟩
    have hc:=wJ qs xs (by omega) (by omega);rw[pZ (by simp[h7])]
    have:(mOp bR (ai 4) (mOp eZ (ai 7) (mOp bX (mOp gM (ai 6) (mC (.int 70))) (mC (.int 6))))) (dE ns b v L (tps qs) (tps rs) N (some (.ow EX)) none none none)=.ok (.sh (.tup (tps (qs++xs)))):=by
     generalize tps (qs++xs)=T at hc;generalize tps qs=Q at hc;generalize tps xs=X at hc hxa;generalize tps rs=R;simp -implicitDefEqProofs [hxa,hc]
    unfold ba;rw[this];rfl
  . exact⟨qs,by omega,by rw[vj (by simp[h7])];rfl⟩
 obtain⟨rs',hrl',s6⟩:∃ rs':List (List Int),rs'.length<=100 /\ bj (aI (mOp gEq (mOp bX (ai 6) (mC (.int 3))) (mC (.int 0)))) (ba 5 (mOp bR (ai 5) (mOp eZ (ai 7) (mOp bX (mOp gM (ai 6) (mC (.int 77))) (mC (.int 6)))))) aY (dE ns b v L (tps qs') (tps rs) N (some (.ow EX)) none none none)=.nx (dE ns b v L (tps qs') (tps rs') N (some (.ow EX)) none none none):=by
  by_cases h7:N%3=0
  . refine⟨rs++ys,by simp;omega,?_⟩
    have hc:=wJ rs ys (by omega) (by omega);rw[pZ (by simp[h7])]
    have:(mOp bR (ai 5) (mOp eZ (ai 7) (mOp bX (mOp gM (ai 6) (mC (.int 77))) (mC (.int 6))))) (dE ns b v L (tps qs') (tps rs) N (some (.ow EX)) none none none)=.ok (.sh (.tup (tps (rs++ys)))):=by
     generalize tps (rs++ys)=T at hc;generalize tps rs=Q at hc;generalize tps ys=X at hc hya;generalize tps qs'=R;simp -implicitDefEqProofs [hya,hc]
    unfold ba;rw[this];rfl
  . exact⟨rs,by omega,by rw[vj (by simp[h7])];rfl⟩
 have s7:ba 8 (mOp eZ (dY (ag (mC (.str "add")) (ag (mC (.str "remove")) (ag (mC (.str "replace")) (ag (mC (.str "move")) (ag (mC (.str "copy")) (ag (mC (.str "test")) ax))))))) (mOp bX (aH bq (ag (ai 0) (ag (mOp eT (ai 1) (mC (.int 3))) ax))) (mC (.int 6)))) (dE ns b v L (tps qs') (tps rs') N (some (.ow EX)) none none none)=.nx (dE ns b v L (tps qs') (tps rs') N (some (.ow EX)) (some (.sh (.str (Str.ofString K)))) none none):=by
  generalize hQ:tps qs'=Q;generalize hR:tps rs'=R;simp -implicitDefEqProofs [emix,hKa,l6,hQ,hR]
 obtain⟨ts,s8⟩:∃ ts:List (List Int),bj (dB (aI (mOp bM (ai 8) (mC (.str "move")))) (aI (mOp gEq (mOp bX (mOp gM (ai 6) (mC (.int 5))) (mC (.int 3))) (mC (.int 0))))) (ba 5 (mOp bR (ai 4) (bC (ag (aH bH (ag (mOp bX (mOp gM (ai 6) (mC (.int 15))) (mC (.int 8))) ax)) ax)))) aY (dE ns b v L (tps qs') (tps rs') N (some (.ow EX)) (some (.sh (.str (Str.ofString K)))) none none)=.nx (dE ns b v L (tps qs') (tps ts) N (some (.ow EX)) (some (.sh (.str (Str.ofString K)))) none none):=by
  by_cases h1:K = "move"
  . by_cases h2:N/5%3=0
    . refine⟨qs'++[PJ.named j8],?_⟩
      have hc:=oW qs' (by omega) (PJ.named j8);rw[pZ (by simp[bS,h1,h2])]
      have:(mOp bR (ai 4) (bC (ag (aH bH (ag (mOp bX (mOp gM (ai 6) (mC (.int 15))) (mC (.int 8))) ax)) ax))) (dE ns b v L (tps qs') (tps rs') N (some (.ow EX)) (some (.sh (.str (Str.ofString K)))) none none)=.ok (.sh (.tup (tps (qs'++[PJ.named j8])))):=by
       generalize tps (qs'++[PJ.named j8])=T at hc;generalize tps qs'=Q at hc;generalize tps rs'=R;simp -implicitDefEqProofs [hj8,hnm2,l1,hc]
      unfold ba;rw[this];rfl
    . exact⟨rs',by rw[vj (by simp[bS,h1,h2])];rfl⟩
  . exact⟨rs',by rw[vj (by simp[bS,h1])];rfl⟩
 have s9:ba 9 (aH cm (ag (ai 0) (ag (mOp eT (ai 1) (mC (.int 4))) (ag (mOp eT (mC (.int 1)) (mOp bX (aH bq (ag (ai 0) (ag (mOp eT (ai 1) (mC (.int 5))) ax))) (mC (.int 4)))) ax)))) (dE ns b v L (tps qs') (tps ts) N (some (.ow EX)) (some (.sh (.str (Str.ofString K)))) none none)=.nx (dE ns b v L (tps qs') (tps ts) N (some (.ow EX)) (some (.sh (.str (Str.ofString K)))) (some (.sh new)) none):=by
  generalize hQ:tps qs'=Q;generalize hR:tps ts=R;simp -implicitDefEqProofs [emix,hnew,hQ,hR]
 obtain⟨ρ,d,e,hd⟩:=zh ns b v g L qs' ts N (some (.ow EX)) K hK new gn
 refine⟨d,?_,hd⟩
 show fin (ny [some (.sh (.lst (ns.map .int))),some (.sh (.int b)),some (.sh v),none,none,none,none,none,none,none,none])=_;unfold ny;rw[aS s0];unfold oG;rw[aS s1];unfold oz;rw[aS s2];unfold oh;rw[aS s3];unfold nT;rw[aS s4];unfold nU;rw[aS s5];unfold nR;rw[aS s6];unfold oo;rw[aS s7];unfold oS;rw[aS s8];unfold om;rw[aS s9,e];rfl
mutual
theorem xb:∀ x:PV,bI x x=true
 |.non=>by simp[bI]
 |.bl _=>by simp[bI]
 |.int _=>by simp[bI]
 |.str _=>by simp[bI]
 |.lst xs=>by simp[bI,qZ xs]
 |.tup xs=>by simp[bI,qZ xs]
theorem qZ:∀ xs:List PV,jG xs xs=true
 |[]=>by simp[jG]
 |x ::xs=>by simp[jG,xb x,qZ xs]
end
theorem zT(ns:List Int)(one v:PV)(g:Gd 300 64 v)(hs:sz 64 v<=300)(k:Int)(A F:Option Sl):∃(v':PV) (A':Option Sl),ki [some (.sh (.lst (ns.map .int))),some (.sh one),some (.sh v),some (.sh (.int k)),A,F]=.nx [some (.sh (.lst (ns.map .int))),some (.sh one),some (.sh v'),some (.sh (.int k)),A',F] /\ Gd 300 64 v' /\ sz 64 v'<=300:=by
 obtain⟨d,hd,dd⟩:=DM ns (24+8*k) v g hs;obtain⟨r,hr,hres⟩:=CW v g d dd
 have hset:ba 4 (aH bN (ag (ai 2) (ag (aH gK (ag (ai 0) (ag (mOp eT (mC (.int 24)) (mOp sU (mC (.int 8)) (ai 3))) (ag (ai 2) ax)))) ax))) [some (.sh (.lst (ns.map .int))),some (.sh one),some (.sh v),some (.sh (.int k)),A,F]=.nx [some (.sh (.lst (ns.map .int))),some (.sh one),some (.sh v),some (.sh (.int k)),some (.ow r),F]:=by
  simp -implicitDefEqProofs [hd,hr]
 unfold ki;rw[aS hset]
 rcases hres with rfl|⟨u,rfl,gu⟩
 . exact⟨v,some (.ow []),by simp -implicitDefEqProofs,g,hs⟩
 . obtain⟨b,hb,hfit⟩:=DD (W:=301) (n:=128) (by omega) (by omega) u gu
   cases b with
   |true=>exact⟨u,some (.ow [u]),by simp -implicitDefEqProofs [hb],(hfit rfl).1,(hfit rfl).2⟩
   |false=>exact⟨v,some (.ow [u]),by simp -implicitDefEqProofs [hb],g,hs⟩
theorem uW(ns:List Int)(one:PV)(F:Option Sl):∀(ks:List Nat) (v:PV) (K A:Option Sl),Gd 300 64 v->sz 64 v<=300 ->
  ∃(v':PV) (K' A':Option Sl),cG 3 ki (ks.map fun k:Nat=>.int k) [some (.sh (.lst (ns.map .int))),some (.sh one),some (.sh v),K,A,F]=.nx [some (.sh (.lst (ns.map .int))),some (.sh one),some (.sh v'),K',A',F] /\ Gd 300 64 v'
 |[],v,K,A,g,_=>⟨v,K,A,rfl,g⟩
 | k ::ks,v,K,A,g,hs=>by
   obtain⟨v1,A1,e,g1,hs1⟩:=zT ns one v g hs k A F
   have hb:ki ([some (.sh (.lst (ns.map .int))),some (.sh one),some (.sh v),K,A,F].set 3 (some (.sh (.int k))))=.nx [some (.sh (.lst (ns.map .int))),some (.sh one),some (.sh v1),some (.sh (.int k)),A1,F]:=e
   obtain⟨v',K',A',e2,g2⟩:=uW ns one F ks v1 (some (.sh (.int k))) A1 g1 hs1
   exact⟨v',K',A',by rw[List.map_cons,gc hb,e2],g2⟩
theorem AF(one other:PV)(g1:Gd 300 64 one)(g2:Gd 300 64 other)(s K A:Option Sl):∃ ρ,qm [s,some (.sh one),some (.sh other),K,A,none]=.rt ρ (.sh (.bl true)):=by
 obtain⟨u,e1,e2,gu⟩:=i2 (W:=300) (by omega) 64 70 one other (by omega) g1 g2
 have e1:iU [one,other]=.ok (.sh u):=e1
 have e2:fk [one,other]=.ok (.sh u):=e2
 have hq:=Aj (n:=64) (by omega) gu gu;rw[xb]at hq
 exact⟨[s,some (.sh one),some (.sh other),K,A,some (.sh u)],by simp -implicitDefEqProofs [qm,xi,e1,e2,hq]⟩
theorem qT(ns:List Int)(b k:Int):∃ v,b7 [.lst (ns.map .int),.int b,.int (1+PG.mix ns k%10)]=.ok (.sh v) /\ Gd 300 64 v /\ sz 64 v<=300:=by
 obtain⟨n,hn⟩:∃ n:Nat,PG.mix ns k%10=n:=⟨(PG.mix ns k%10).toNat,by omega⟩
 obtain⟨v,h1,h2,h3⟩:=zd ns b (1+n) (by omega) (by omega)
 refine⟨v,?_,h2.mono (by omega) (by omega),?_⟩
 . rw[hn,show(1:Int)+(n:Int)=((1+n:Nat):Int) by omega];exact h1
 . rw[iM 10 64 v h2 (by omega)];omega
theorem zq(ns:List Int)(_:ns.length<=63):ua [.lst (ns.map .int)]=.ok (.sh (.bl true)):=by
 obtain⟨one,h1,g1,z1⟩:=qT ns 0 62;obtain⟨oth,h2,g2,_⟩:=qT ns 12 61;have emix:=cC ns
 have s1:ba 1 (aH b7 (ag (ai 0) (ag (mC (.int 0)) (ag (mOp eT (mC (.int 1)) (mOp bX (aH bq (ag (ai 0) (ag (mC (.int 62)) ax))) (mC (.int 10)))) ax)))) [some (.sh (.lst (ns.map .int))),none,none,none,none,none]=.nx [some (.sh (.lst (ns.map .int))),some (.sh one),none,none,none,none]:=by
  simp -implicitDefEqProofs [emix,h1]
 have s2:ba 2 (aH b7 (ag (ai 0) (ag (mC (.int 12)) (ag (mOp eT (mC (.int 1)) (mOp bX (aH bq (ag (ai 0) (ag (mC (.int 61)) ax))) (mC (.int 10)))) ax)))) [some (.sh (.lst (ns.map .int))),some (.sh one),none,none,none,none]=.nx [some (.sh (.lst (ns.map .int))),some (.sh one),some (.sh oth),none,none,none]:=by
  simp -implicitDefEqProofs [emix,h2]
 have h3:∃(v K A:_),Gd 300 64 v /\ qb [some (.sh (.lst (ns.map .int))),some (.sh one),some (.sh oth),none,none,none]=qm [some (.sh (.lst (ns.map .int))),some (.sh one),some (.sh v),K,A,none]:=by
  by_cases h:PG.mix ns 60%2=0
  . obtain⟨n,hn⟩:∃ n:Nat,PG.mix ns 59%4=n:=⟨(PG.mix ns 59%4).toNat,by omega⟩
    obtain⟨v,K,A,e,gv⟩:=uW ns one none (List.range n) one none none g1 z1;obtain⟨w,hw,gw⟩:=Bs (W:=300) (by omega) 64 70 v (PG.mix ns 58) (by omega) gv
    have hw:fb [v,.int (PG.mix ns 58)]=.ok (.sh w):=hw
    refine⟨w,K,A,gw,?_⟩
    have hf:i9 3 (mOp bX (aH bq (ag (ai 0) (ag (mC (.int 59)) ax))) (mC (.int 4))) ki [some (.sh (.lst (ns.map .int))),some (.sh one),some (.sh one),none,none,none]=.nx [some (.sh (.lst (ns.map .int))),some (.sh one),some (.sh v),K,A,none]:=by
     rw[og (j:=(n:Int)) (by simp -implicitDefEqProofs [emix,hn]) (by omega),Int.toNat_natCast];exact e
    have hb:(aR (ba 2 (ai 1)) (aR (i9 3 (mOp bX (aH bq (ag (ai 0) (ag (mC (.int 59)) ax))) (mC (.int 4))) ki) (ba 2 (aH fb (ag (ai 2) (ag (aH bq (ag (ai 0) (ag (mC (.int 58)) ax))) ax)))))) [some (.sh (.lst (ns.map .int))),some (.sh one),some (.sh oth),none,none,none]=.nx [some (.sh (.lst (ns.map .int))),some (.sh one),some (.sh w),K,A,none]:=by
     rw[aS (ρ':=[some (.sh (.lst (ns.map .int))),some (.sh one),some (.sh one),none,none,none]) (by simp),aS hf];simp -implicitDefEqProofs [emix,hw]
    unfold qb;exact aS (Eq.trans (pZ (by simp -implicitDefEqProofs [emix,h])) hb)
  . refine⟨oth,none,none,g2,?_⟩
    unfold qb;exact sk (by simp -implicitDefEqProofs [emix,h])
 obtain⟨v,K,A,gv,h3⟩:=h3;obtain⟨ρ,h4⟩:=AF one v g1 gv (some (.sh (.lst (ns.map .int)))) K A;show fin (zC [some (.sh (.lst (ns.map .int))),none,none,none,none,none])=_;unfold zC;rw[aS s1];unfold wL;rw[aS s2,h3,h4];rfl
end L2.plainglass_k53_merged
namespace L2.plainglass_k53_merged
open PySem PySem.Spec PyProof.Rows L2.E L2.P PG
def top(i:Nat):Stmt:=PySem.Challenge.pw_plainglass_k53_merged.main.body.getD i (.Pass ⟨0,0,0,0⟩)
abbrev pk:Stmt:=top 1
abbrev ng:List Str:=["thing"]
theorem v3:bu ["thing"] ng (aJ pk):=gR
abbrev rf:Stmt:=top 3
abbrev sE:List Str:=["one","other"]
theorem mq:bu ["one","other","members","name","given"] sE (aJ rf):=gR
abbrev km:Stmt:=top 4
abbrev je:List Str:=["thing"]
theorem rD:bu ["thing"] je (aJ km):=gR
abbrev nB:Stmt:=top 6
abbrev lO:List Str:=["_law_script","_law_k"]
theorem t5:bu ["_law_script","_law_k"] lO (aJ nB):=gR
abbrev pw:Stmt:=top 7
abbrev m7:List Str:=["_law_script","_law_k"]
theorem mY:bu ["_law_script","_law_k","_law_number"] m7 (aJ pw):=gR
abbrev lJ:Stmt:=top 10
abbrev ka:List Str:=["_law_many_here"]
theorem tq:bu ["_law_many_here"] ka (aJ lJ):=gR
abbrev gS:Stmt:=top 11
abbrev gE:List Str:=["_law_number"]
theorem gp:bu ["_law_number","_law_kind_here","_law_rest"] gE (aJ gS):=gR
abbrev j5:Stmt:=top 12
abbrev jw:List Str:=["_law_frames","_law_value_here"]
theorem rJ:bu ["_law_frames","_law_value_here"] jw (aJ j5):=gR
abbrev nA:Stmt:=top 13
abbrev lB:List Str:=["_law_frames"]
theorem kN:bu ["_law_frames","_law_frame","_law_value_here"] lB (aJ nA):=gR
abbrev lD:Stmt:=top 14
abbrev kf:List Str:=["_law_script","_law_base","_law_many_here"]
theorem eE:bu ["_law_script","_law_base","_law_many_here","_law_frames","_law_value_here","_law_k","_law_number"] kf (aJ lD):=gR
abbrev nv:Stmt:=top 15
abbrev kG:List Str:=["_law_thing"]
theorem uQ:bu ["_law_thing"] kG (aJ nv):=gR
abbrev lC:Stmt:=top 16
abbrev nZ:List Str:=["_law_one","_law_other"]
theorem iJ:bu ["_law_one","_law_other","_law_kind_here","_law_k","_law_same"] nZ (aJ lC):=gR
abbrev kg:Stmt:=top 17
abbrev mQ:List Str:=["_law_thing","_law_number"]
theorem ij:bu ["_law_thing","_law_number","_law_kind_here","_law_at","_law_pairs"] mQ (aJ kg):=gR
abbrev m4:Stmt:=top 18
abbrev lq:List Str:=["_law_thing"]
theorem dz:bu ["_law_thing","_law_found","_law_at","_law_names","_law_here","_law_kind_here","_law_k","_law_pair"] lq (aJ m4):=gR
abbrev lg:Stmt:=top 19
abbrev jT:List Str:=["_law_name"]
theorem iB:bu ["_law_name","_law_number","_law_point"] jT (aJ lg):=gR
abbrev lT:Stmt:=top 20
abbrev jV:List Str:=["_law_thing","_law_name"]
theorem iE:bu ["_law_thing","_law_name","_law_kind_here","_law_at"] jV (aJ lT):=gR
abbrev pd:Stmt:=top 21
abbrev nC:List Str:=["_law_thing","_law_names"]
theorem j3:bu ["_law_thing","_law_names","_law_name","_law_at"] nC (aJ pd):=gR
abbrev nu:Stmt:=top 22
abbrev lS:List Str:=["_law_thing","_law_name","_law_new"]
theorem lF:bu ["_law_thing","_law_name","_law_new","_law_at","_law_part"] lS (aJ nu):=gR
abbrev lQ:Stmt:=top 23
abbrev oQ:List Str:=["_law_thing","_law_names","_law_new"]
theorem fU:bu ["_law_thing","_law_names","_law_new","_law_kind_here","_law_at","_law_inside"] oQ (aJ lQ):=gR
abbrev jo:Stmt:=top 24
abbrev lH:List Str:=["_law_thing","_law_names"]
theorem iN:bu ["_law_thing","_law_names","_law_at","_law_inside"] lH (aJ jo):=gR
abbrev iZ:Stmt:=top 25
abbrev kA:List Str:=["_law_thing","_law_names","_law_new"]
theorem kv:bu ["_law_thing","_law_names","_law_new","_law_inside"] kA (aJ iZ):=gR
abbrev nK:Stmt:=top 26
abbrev lG:List Str:=["_law_thing","_law_deed_here"]
theorem kK:bu ["_law_thing","_law_deed_here","_law_here","_law_left"] lG (aJ nK):=gR
abbrev nI:Stmt:=top 27
abbrev pH:List Str:=["_law_thing"]
theorem ir:bu ["_law_thing","_law_kind_here","_law_found","_law_part"] pH (aJ nI):=gR
abbrev nz:Stmt:=top 28
abbrev pT:List Str:=["_law_thing"]
theorem il:bu ["_law_thing","_law_kind_here","_law_found","_law_part"] pT (aJ nz):=gR
abbrev mZ:Stmt:=top 29
abbrev kP:List Str:=["_law_thing"]
theorem uE:bu ["_law_thing"] kP (aJ mZ):=gR
abbrev nG:Stmt:=top 30
abbrev lN:List Str:=["_law_script","_law_base","_law_thing"]
theorem cj:bu ["_law_script","_law_base","_law_thing","_law_ways_here","_law_names","_law_goal","_law_number","_law_extra","_law_kind_here","_law_new","_law_here"] lN (aJ nG):=gR
abbrev jY:Stmt:=top 31
abbrev mB:List Str:=["_law_one","_law_other"]
theorem dA:bu ["_law_one","_law_other","_law_pairs","_law_name","_law_part","_law_at"] mB (aJ jY):=gR
abbrev j0:Stmt:=top 32
abbrev jb:List Str:=["_law_script","_law_base","_law_many_here"]
theorem mU:bu ["_law_script","_law_base","_law_many_here","_law_thing"] jb (aJ j0):=gR
abbrev kL:Stmt:=top 33
abbrev oA:List Str:=["_law_thing","_law_number"]
theorem gZ:bu ["_law_thing","_law_number","_law_found","_law_name","_law_part"] oA (aJ kL):=gR
abbrev vb:Stmt:=top 34
abbrev vq:List Str:=["_law_script"]
theorem ke:bu ["_law_script","_law_one","_law_other","_law_k","_law_after","_law_found"] vq (aJ vb):=gR
set_option genInjectivity false in
set_option genSizeOf false in
structure Adr where
 dG:Addr
 d_kind_of:FuncData
 iU:Addr
 d_merged:FuncData
 cP:Addr
 d_members_of:FuncData
 gC:Addr
 d_law_cell:FuncData
 bq:Addr
 d_law_mix:FuncData
 bH:Addr
 d_law_named:FuncData
 bf:Addr
 d_law_small_value:FuncData
 bB:Addr
 d_law_put_in:FuncData
 dH:Addr
 d_law_shut:FuncData
 cm:Addr
 d_law_clean:FuncData
 aO:Addr
 d_law_kind:FuncData
 fF:Addr
 d_law_alike:FuncData
 fm:Addr
 d_law_turned:FuncData
 gG:Addr
 d_law_ways:FuncData
 cW:Addr
 d_law_place:FuncData
 bp:Addr
 d_law_index:FuncData
 cL:Addr
 d_law_get:FuncData
 cM:Addr
 d_law_with:FuncData
 dy:Addr
 d_law_grown:FuncData
 cS:Addr
 d_law_without:FuncData
 dR:Addr
 d_law_replaced:FuncData
 bN:Addr
 d_law_done:FuncData
 gB:Addr
 d_law_deep:FuncData
 gD:Addr
 d_law_size:FuncData
 fH:Addr
 d_law_fits:FuncData
 gK:Addr
 d_law_deed:FuncData
 fk:Addr
 d_law_merged:FuncData
 b7:Addr
 d_law_fields:FuncData
 fb:Addr
 d_law_holed:FuncData
 ua:Addr
 d_law:FuncData
structure Txt(K:PySem.W.Frag)(mg:Str->Option Value)(t:Adr):Prop where
 e_kind_of:Ent K mg "kind_of" pk t.dG t.d_kind_of ng
 i2:Ent K mg "merged" rf t.iU t.d_merged sE
 e_members_of:Ent K mg "members_of" km t.cP t.d_members_of je
 kh:Ent K mg "_law_cell" nB t.gC t.d_law_cell lO
 cC:Ent K mg "_law_mix" pw t.bq t.d_law_mix m7
 e_law_named:Ent K mg "_law_named" lJ t.bH t.d_law_named ka
 e_law_small_value:Ent K mg "_law_small_value" gS t.bf t.d_law_small_value gE
 e_law_put_in:Ent K mg "_law_put_in" j5 t.bB t.d_law_put_in jw
 e_law_shut:Ent K mg "_law_shut" nA t.dH t.d_law_shut lB
 e_law_clean:Ent K mg "_law_clean" lD t.cm t.d_law_clean kf
 e_law_kind:Ent K mg "_law_kind" nv t.aO t.d_law_kind kG
 e_law_alike:Ent K mg "_law_alike" lC t.fF t.d_law_alike nZ
 e_law_turned:Ent K mg "_law_turned" kg t.fm t.d_law_turned mQ
 e_law_ways:Ent K mg "_law_ways" m4 t.gG t.d_law_ways lq
 e_law_place:Ent K mg "_law_place" lg t.cW t.d_law_place jT
 e_law_index:Ent K mg "_law_index" lT t.bp t.d_law_index jV
 e_law_get:Ent K mg "_law_get" pd t.cL t.d_law_get nC
 e_law_with:Ent K mg "_law_with" nu t.cM t.d_law_with lS
 e_law_grown:Ent K mg "_law_grown" lQ t.dy t.d_law_grown oQ
 e_law_without:Ent K mg "_law_without" jo t.cS t.d_law_without lH
 e_law_replaced:Ent K mg "_law_replaced" iZ t.dR t.d_law_replaced kA
 e_law_done:Ent K mg "_law_done" nK t.bN t.d_law_done lG
 e_law_deep:Ent K mg "_law_deep" nI t.gB t.d_law_deep pH
 e_law_size:Ent K mg "_law_size" nz t.gD t.d_law_size pT
 e_law_fits:Ent K mg "_law_fits" mZ t.fH t.d_law_fits kP
 e_law_deed:Ent K mg "_law_deed" nG t.gK t.d_law_deed lN
 e_law_merged:Ent K mg "_law_merged" jY t.fk t.d_law_merged mB
 e_law_fields:Ent K mg "_law_fields" j0 t.b7 t.d_law_fields jb
 e_law_holed:Ent K mg "_law_holed" kL t.fb t.d_law_holed oA
 zq:Ent K mg "law" vb t.ua t.d_law vq
 n_tuple:mg "tuple" = none
 n_dict:mg "dict" = none
 n_len:mg "len" = none
 n_range:mg "range" = none
 n_isinstance:mg "isinstance" = none
 n_ord:mg "ord" = none
 n_str:mg "str" = none
 n_max:mg "max" = none
noncomputable def cp(t:Adr)(c:String):Option Addr:=none
section
variable{P:Program}{w:World}{K:PySem.W.Frag}{mg:Str->Option Value}{base:Heap}{t:Adr}
theorem uk(T:Txt K mg t):cn P w K mg base (CXE P w) 1 t.gC t.d_law_cell lO (spP K (cp t) gC):=
 hU T.kh.F t5 fun _ _ _ _ _ _ hr=>⟨_,(au (bg (bJ (qv 0) (fun _=>rfl)) (aw (aM (qi bx (qv 0) (aP b4 (qv 1) (iV T.n_len (qv 0)))))) aL)
   (aw (aM ak))),
  (ay (bh (ck ae) (aT (ao cN ae (ao b6 ae (cg eh ae)))) aK)
    (aT aj))⟩
theorem dQ(T:Txt K mg t):cn P w K mg base (CXE P w) 2 t.bq t.d_law_mix m7 (spP K (cp t) bq):=
 hU T.cC.F mY fun _ _ _ _ _ _ hr=>⟨_,(au (qz 2 mY.nd (aP b4 (aP cV (qx (uk T) T.kh hr aC (aa (qv 0) (aa (qv 1) aq))) (aP o6 ak (aP cV (qv 1) ak))) ak))
   (au (qz 2 mY.nd (aP b4 (aP o6 (qv 2) ak) ak))
   (aw (aM (aP b4 (aP cV (aP o6 (aP fz (qv 2) ak) ak) (qv 2)) ak))))),
  (ay (aQ (ao b6 (ao cX (aE (af ae (af ae av))) (ao pB aj (ao cX ae aj))) aj))
    (ay (aQ (ao b6 (ao pB ae aj) aj))
    (aT (ao b6 (ao cX (ao pB (ao fB ae aj) aj) ae) aj))))⟩
theorem iI(T:Txt K mg t):cn P w K mg base (CXE P w) 1 t.bH t.d_law_named ka (spP K (cp t) bH):=
 hU T.e_law_named.F tq fun _ _ _ _ _ _ hr=>⟨_,(au (bg (bO qy (qv 0) ak) (aw (aM (qi bx (bT (aa (aU aq) (aa (aU (aa ak aq)) (aa (aU (aa ak (aa ak aq))) (aa (aU (aa ak (aa ak aq))) (aa (aU (aa ak aq)) (aa (aU (aa ak aq)) aq))))))) (qv 0)))) aL)
   (aw (aM (aU (aa (aP cV ak (qv 0)) aq))))),
  (ay (bh (aF (ao rq ae aj)) (aT (ao cN (bW (af (aV av) (af (aV (af aj av)) (af (aV (af aj (af aj av))) (af (aV (af aj (af aj av))) (af (aV (af aj av)) (af (aV (af aj av)) av))))))) ae)) aK)
    (aT (aV (af (ao cX aj ae) av))))⟩
theorem my(T:Txt K mg t):cn P w K mg base (CXE P w) 2 t.bB t.d_law_put_in jw (spI K (cp t) bB):=
 CH T.e_law_put_in.F rJ fun _ _ _ _ _ _ hr=>⟨_,(aw (bg (hE (hV (bJ (qv 0) (fun _=>rfl)) (gm (bO b9 (qi bx (qi bx (qv 0) (pU lU ak)) ak) aX)))) (aw (qap fS (qi bx (qi bx (qv 0) (pU lU ak)) ak) (qv 1))) (aw (bg (bJ (qv 0) (fun _=>rfl)) (aw (qap fS (qi bx (qi bx (qv 0) (pU lU ak)) ak) (aU (aa (qx (iI T) T.e_law_named hr aC (aa (iV T.n_len (qi bx (qi bx (qv 0) (pU lU ak)) ak)) aq)) (aa (qv 1) aq))))) aL)))),
  (bh (ia (jN eQ) (aF (ao (cb hr.units) (tE (rE (rE eQ (pI lx aj)) aj)) aW))) (nk (rE (rE eQ (pI lx aj)) aj) (yJ ae)) (bh (jN eQ) (nk (rE (rE eQ (pI lx aj)) aj) (yJ (aV (af (aE (af (A8 (rE (rE eQ (pI lx aj)) aj)) av)) (af ae av))))) aK))⟩
theorem pM(T:Txt K mg t):cn P w K mg base (CXE P w) 3 t.dH t.d_law_shut lB (spI K (cp t) dH):=
 CH T.e_law_shut.F kN fun _ _ _ _ _ _ hr=>⟨_,(au (qz 1 kN.nd (yY PySem.F.plainAttrs_list PySem.F.slot_list_pop PySem.F.type_list_pop DI (qv 0)))
   (au (qz 2 kN.nd (aU (aa (qi bx (qv 1) ak) (aa (ft eP rfl T.n_tuple L2.E.boot_tuple (aa (qi bx (qv 1) ak) aq)) aq))))
   (au (qj (qx (my T) T.e_law_put_in hr aC (aa (qv 0) (aa (qv 2) aq))))
   (aw (aM (qv 2)))))),
  (ay (tO (BG eQ))
    (ay (aQ (aV (af (tE (rE eQ aj)) (af (cg nJ (tE (rE eQ aj))) av))))
    (ay (uV (oy rfl (jO (xl eQ) (jO (Ci (W:=fun _ _ _ _=>False) ae) qk))))
    eX)))⟩
theorem nc(T:Txt K mg t):cn P w K mg base (CXE P w) 1 t.bf t.d_law_small_value gE (spP K (cp t) bf):=
 hU T.e_law_small_value.F gp fun _ _ _ _ _ _ hr=>⟨_,(au (qz 1 gp.nd (aP b4 (qv 0) ak))
   (au (qz 2 gp.nd (aP fz (qv 0) ak))
   (au (bg (bO qy (qv 1) ak) (aw (aM (qi bx (bT (aa jc (aa pR (aa pR aq)))) (qv 1)))) aL)
   (au (bg (bO b9 (qv 1) ak) (aw (aM (aU (aa aX (aa (qi bx (bT (aa (aU (aa ak aq)) (aa (aU (aa ak (aa ak aq))) (aa (aU aq) (aa (aU (aa ak (aa ak aq))) aq))))) (aP b4 (qv 2) ak)) aq))))) aL)
   (au (bg (bO b9 (qv 1) ak) (aw (aM (aU (aa aX (aa (aP cV ak (aP b4 (qv 2) ak)) (aa (aP vI (aP b4 (aP fz (qv 2) ak) ak) ak) aq)))))) aL)
   (aw (aM (qi bx (bT (aa (aU (aa aX (aa ak (aa ak aq)))) (aa (aU (aa aX (aa (aP vI (aP o6 (pU lU ak) (qv 2)) ak) (aa ak aq)))) aq))) (aP b4 (qv 2) ak))))))))),
  (ay (aQ (ao b6 ae aj))
    (ay (aQ (ao fB ae aj))
    (ay (bh (aF (ao rq ae aj)) (aT (ao cN (bW (af jZ (af pO (af pO av)))) ae)) aK)
    (ay (bh (aF (ao (cb hr.units) ae aj)) (aT (aV (af aW (af (ao cN (bW (af (aV (af aj av)) (af (aV (af aj (af aj av))) (af (aV av) (af (aV (af aj (af aj av))) av))))) (ao b6 ae aj)) av)))) aK)
    (ay (bh (aF (ao (cb hr.units) ae aj)) (aT (aV (af aW (af (ao cX aj (ao b6 ae aj)) (af (ao vS (ao b6 (ao fB ae aj) aj) aj) av))))) aK)
    (aT (ao cN (bW (af (aV (af aW (af aj (af aj av)))) (af (aV (af aW (af (ao vS (ao pB (pI lx aj) ae) aj) (af aj av)))) av))) (ao b6 ae aj))))))))⟩
theorem n6(T:Txt K mg t):cn P w K mg base (CXE P w) 4 t.cm t.d_law_clean kf (spP K (cp t) cm):=
 hU T.e_law_clean.F eE fun _ _ _ _ _ _ hr=>⟨_,(au (qz 3 eE.nd (bT aq))
   (au (qz 4 eE.nd jc)
   (au (hX fi rfl (iL rfl T.n_range (aa (qv 2) aq)) (eV (i:=5) eE.nd rfl (by first|exact Or.inl rfl|exact Or.inr rfl)) (au (qz 6 eE.nd (qx (dQ T) T.cC hr aC (aa (qv 0) (aa (aP cV (qv 1) (qv 5)) aq))))
   (aw (bg (hE (hV (bJ (qv 3) (fun _=>rfl)) (gm (bO kr (aP b4 (qv 6) ak) ak)))) (aw (qz 4 eE.nd (qx (pM T) T.e_law_shut hr aC (aa (qv 3) aq)))) (aw (bg (hE (rX (bJ (qv 3) (fun _=>rfl)) (o8 (bO kr (qv 5) ak)))) (aw (bg (hE (rX (bO uR (aP b4 (qv 6) ak) ak) (o8 (hE (hV (bO kr (qv 5) ak) (gm (bO uR (aP b4 (qv 6) ak) ak))))))) (aw (qap fS (qv 3) (bT (aa (qi bx (bT (aa aX (aa aX aq))) (aP b4 (aP fz (qv 6) ak) ak)) (aa (bT aq) aq))))) (au (qz 4 eE.nd (qx (nc T) T.e_law_small_value hr aC (aa (aP fz (qv 6) ak) aq)))
   (aw (qj (qx (my T) T.e_law_put_in hr aC (aa (qv 3) (aa (qv 4) aq)))))))) aL))))))
   (au (uM fi (bJ (qv 3) (fun _=>rfl)) (aw (qz 4 eE.nd (qx (pM T) T.e_law_shut hr aC (aa (qv 3) aq)))))
   (aw (aM (qv 4))))))),
  (ay (wY (yJ (bW av)))
    (ay (aQ jZ)
    (ay (nW ae (ay (aQ (aE (af ae (af (ao cX ae ae) av))))
    (bh (ia (jN eQ) (aF (ao kq (ao b6 ae aj) aj))) (tO (oy rfl (jO (xl eQ) qk))) (bh (rS (jN eQ) (aF (ao kq ae aj))) (bh (rS (aF (ao uO (ao b6 ae aj) aj)) (ia (aF (ao kq ae aj)) (aF (ao uO (ao b6 ae aj) aj)))) (nk eQ (C0 (uc (yJ (ao cN (bW (af aW (af aW av))) (ao b6 (ao fB ae aj) aj))) (uc (yJ (bW av)) A0)))) (ay (aQ (aE (af (ao fB ae aj) av)))
    (uV (oy rfl (jO (xl eQ) (jO (Ci (W:=fun _ _ _ _=>False) ae) qk)))))) aK))))
    (ay (uv (jN eQ) (tO (oy rfl (jO (xl eQ) qk))))
    eX))))⟩
theorem eJ(T:Txt K mg t):cn P w K mg base (CXE P w) 1 t.aO t.d_law_kind kG (spP K (cp t) aO):=
 hU T.e_law_kind.F uQ fun _ _ _ _ _ _ hr=>⟨_,(au (bg (hE (hV (bJ (gT jC rfl T.n_isinstance L2.E.boot_isinstance (aa (qv 0) (aa (lY (v:=.ty _) rfl T.n_tuple L2.E.boot_tuple rfl) aq))) (fun _=>rfl)) (hV (bO kr (iV T.n_len (qv 0)) ak) (gm (xg Ef (qi aB (qv 0) ak) (aU (aa aX (aa aX aq))) rfl))))) (aw (aM (qi aB (qv 0) ak))) aL)
   (aw (aM aX))),
  (ay (bh (ia (ck (pC ae)) (ia (aF (ao kq (cg eh ae) aj)) (aF (ao (Fj hr.units) (ao aA ae aj) (aV (af aW (af aW av))))))) (aT (ao aA ae aj)) aK)
    (aT aW))⟩
theorem mx(T:Txt K mg t):cn P w K mg base (CXE P w) 5 t.b7 t.d_law_fields jb (spP K (cp t) b7):=
 hU T.e_law_fields.F mU fun _ _ _ _ _ _ hr=>⟨_,(au (qz 3 mU.nd (qx (n6 T) T.e_law_clean hr aC (aa (qv 0) (aa (qv 1) (aa (qv 2) aq)))))
   (au (bg (bO b9 (qx (eJ T) T.e_law_kind hr aC (aa (qv 3) aq)) aX) (aw (aM (aU (aa aX (aa (ft eP rfl T.n_tuple L2.E.boot_tuple (aa (qa (M:=["_law_thing"]) (ι:=[3]) (x:="_law_k") ⟨rfl,rfl,rfl,rfl,rfl,rfl,rfl,rfl,rfl,rfl,rfl,by decide +kernel⟩ rfl (iL rfl T.n_range (aa (iV T.n_len (qi aB (qv 3) ak)) aq)) fun _ _ _ _=>(aU (aa (qx (iI T) T.e_law_named hr vX (aa (qv 1) aq)) (aa (qi aB (qi aB (qv 0) ak) (qv 1)) aq)))) aq)) aq))))) aL)
   (aw (aM (qv 3))))),
  (ay (aQ (aE (af ae (af ae (af ae av)))))
    (ay (bh (aF (ao (cb hr.units) (aE (af ae av)) aW)) (aT (aV (af aW (af (cg nJ (Af (by decide) (cg eh (ao aA ae aj)) (aV (af (aE (af ae av)) (af (ao aA (ao aA ae aj) ae) av))))) av)))) aK)
    eX))⟩
theorem qO(T:Txt K mg t):cn P w K mg base (CXE P w) 1 t.dG t.d_kind_of ng (spP K (cp t) dG):=
 hU T.e_kind_of.F v3 fun _ _ _ _ _ _ hr=>⟨_,(au (bg (bO vO (qv 0) jc) (aw (aM aX)) aL)
   (au (bg (bO zW (qv 0) pR) (aw (aM aX)) aL)
   (au (bg (bO zW (qv 0) pR) (aw (aM aX)) aL)
   (aw (aM (qi aB (qv 0) ak)))))),
  (ay (bh (aF (ao vz ae jZ)) (aT aW) aK)
    (ay (bh (aF (ao y9 ae pO)) (aT aW) aK)
    (ay (bh (aF (ao y9 ae pO)) (aT aW) aK)
    (aT (ao aA ae aj)))))⟩
theorem rB(T:Txt K mg t):cn P w K mg base (CXE P w) 2 t.cP t.d_members_of je (spD K (cp t) cP):=
 Fl T.e_members_of.F rD fun _ _ _ _ _ _ hr=>⟨_,(aw (aM (fJ (by exact(bO b9 (qx (qO T) T.e_kind_of hr aC (aa (qv 0) aq)) aX)) (ft vC rfl T.n_dict L2.E.boot_dict (aa (qi aB (qv 0) ak) aq)) y4))),
  (EM (aF (ao (cb hr.units) (aE (af ae av)) aW)) (AE hr.hd (Ej hr) (ao aA ae aj)) Ea)⟩
theorem qt(T:Txt K mg t):∀ n,cn P w K mg base (CXE P w) (2+n) t.iU t.d_merged ["one","other"] (spP K (cp t) (eW n))
 |0=>jq
 | n+1=>have ih:=qt T n
   hU T.i2.F mq fun _ _ _ _ _ _ hr=>⟨_,(au (bg (bO qI (bb ((qO T).mono (by show _<=2+n;omega)) hr rfl T.e_kind_of.m T.e_kind_of.F.kp T.e_kind_of.b .nil aC (aa (qv 1) aq)) aX) (aw (aM (qv 1))) aL)
    (au (qz 2 mq.nd (bb ((rB T).mono (by show _<=2+n;omega)) hr rfl T.e_members_of.m T.e_members_of.F.kp T.e_members_of.b .nil aC (aa (qv 0) aq)))
    (au (hX fi rfl (kU (qi aB (qv 1) ak)) (wj rfl (jI (eV (i:=3) mq.nd rfl (by first|exact Or.inl rfl|exact Or.inr rfl)) (jI (eV (i:=4) mq.nd rfl (by first|exact Or.inl rfl|exact Or.inr rfl)) tJ))) (aw (bg (bO vO (qv 4) jc) (aw (qj (Ai PySem.F.plainAttrs_dict PySem.F.slot_dict_pop PySem.F.type_dict_pop AI (qv 2) (aa (qv 3) (aa jc aq))))) (aw (zj (yG hr) (qv 2) (qv 3) (bb ih hr rfl T.i2.m T.i2.F.kp T.i2.b .nil aC (aa (Ai PySem.F.plainAttrs_dict PySem.F.slot_dict_get PySem.F.type_dict_get AL (qv 2) (aa (qv 3) aq)) (aa (qv 4) aq))))))))
    (aw (aM (aU (aa aX (aa (ft ui rfl T.n_tuple L2.E.boot_tuple (aa (yY PySem.F.plainAttrs_dict PySem.F.slot_dict_items PySem.F.type_dict_items yN (qv 2)) aq)) aq)))))))),
   (ay (bh (aF (ao (qN hr.units) (aE (af ae av)) aW)) eX aK)
     (ay (wY (AN (af ae av)))
     (ay (qK (ao aA ae aj) (bh (aF (ao vz ae jZ)) (zr (yG hr) eQ ae) (yB eQ ae (aE (af (z8 (yG hr) eQ ae) (af ae av))))))
     (aT (aV (af aW (af (v7 hr.hd eQ) av)))))))⟩
theorem x9(T:Txt K mg t):cn P w K mg base (CXE P w) 73 t.iU t.d_merged ["one","other"] (spP K (cp t) iU):=(qt T 70).mono (by decide)
theorem mL(T:Txt K mg t):∀ n,cn P w K mg base (CXE P w) (1+n) t.fb t.d_law_holed ["_law_thing","_law_number"] (spP K (cp t) (cw n))
 |0=>jq
 | n+1=>have ih:=mL T n
   hU T.e_law_holed.F gZ fun _ _ _ _ _ _ hr=>⟨_,(au (bg (bO qI (bb ((eJ T).mono (by show _<=1+n;omega)) hr rfl T.e_law_kind.m T.e_law_kind.F.kp T.e_law_kind.b .nil aC (aa (qv 0) aq)) aX) (aw (aM (qv 0))) aL)
    (au (qz 2 gZ.nd (bT aq))
    (au (hX fi rfl (kU (qi aB (qv 0) ak)) (wj rfl (jI (eV (i:=3) gZ.nd rfl (by first|exact Or.inl rfl|exact Or.inr rfl)) (jI (eV (i:=4) gZ.nd rfl (by first|exact Or.inl rfl|exact Or.inr rfl)) tJ))) (au (qz 1 gZ.nd (aP cV (aP fz (qv 1) ak) ak))
    (aw (qap fS (qv 2) (aU (aa (qv 3) (aa (fJ (by exact(bO kr (aP b4 (qv 1) ak) ak)) jc (bb ih hr rfl T.e_law_holed.m T.e_law_holed.F.kp T.e_law_holed.b .nil aC (aa (qv 4) (aa (qv 1) aq)))) aq)))))))
    (aw (aM (aU (aa aX (aa (ft eP rfl T.n_tuple L2.E.boot_tuple (aa (qv 2) aq)) aq)))))))),
   (ay (bh (aF (ao (qN hr.units) (aE (af ae av)) aW)) eX aK)
     (ay (aQ (bW av))
     (ay (qK (ao aA ae aj) (ay (aQ (ao cX (ao fB ae aj) aj))
     (o4 (aV (af ae (af (mz (aF (ao kq (ao b6 ae aj) aj)) jZ (aE (af ae (af ae av)))) av))))))
     (aT (aV (af aW (af (cg nJ ae) av)))))))⟩
theorem tZ(T:Txt K mg t):cn P w K mg base (CXE P w) 72 t.fb t.d_law_holed ["_law_thing","_law_number"] (spP K (cp t) fb):=(mL T 70).mono (by decide)
theorem j7(T:Txt K mg t):cn P w K mg base (CXE P w) 1 t.cW t.d_law_place jT (spP K (cp t) cW):=
 hU T.e_law_place.F iB fun _ _ _ _ _ _ hr=>⟨_,(au (bg (hE (rX (iY (bJ (qv 0) (fun _=>rfl))) (o8 (hE (hV (bO uR (iV T.n_len (qv 0)) ak) (gm (bO kr (qi aB (qv 0) ak) ak))))))) (aw (aM (pU lU ak))) aL)
   (au (qz 1 iB.nd ak)
   (au (hX fi rfl (kU (qv 0)) (eV (i:=2) iB.nd rfl (by first|exact Or.inl rfl|exact Or.inr rfl)) (au (bg (iY (uY sg sg ak (qv 2) ak)) (aw (aM (pU lU ak))) aL)
   (aw (qz 1 iB.nd (aP vI (aP cV (aP o6 (qv 1) ak) (qv 2)) ak)))))
   (aw (aM (qv 1)))))),
  (ay (bh (rS (iX (ck ae)) (ia (aF (ao uO (cg eh ae) aj)) (aF (ao kq (ao aA ae aj) aj)))) (aT (pI lx aj)) aK)
    (ay (aQ aj)
    (ay (oH ae (ay (bh (iX (aF (u3 rV rV aj ae aj))) (aT (pI lx aj)) aK)
    (aQ (ao vS (ao cX (ao pB ae aj) ae) aj))))
    eX)))⟩
theorem gX(T:Txt K mg t):cn P w K mg base (CXE P w) 2 t.bp t.d_law_index jV (spP K (cp t) bp):=
 hU T.e_law_index.F iE fun _ _ _ _ _ _ hr=>⟨_,(au (qz 2 iE.nd aX)
   (au (bg (bJ (gT jC rfl T.n_isinstance L2.E.boot_isinstance (aa (qv 0) (aa (lY (v:=.ty _) rfl T.n_tuple L2.E.boot_tuple rfl) aq))) (fun _=>rfl)) (aw (qz 2 iE.nd (qi aB (qv 0) ak))) aL)
   (au (bg (bO b9 (qv 2) aX) (aw (hX fi rfl (iL rfl T.n_range (aa (iV T.n_len (qi aB (qv 0) ak)) aq)) (eV (i:=3) iE.nd rfl (by first|exact Or.inl rfl|exact Or.inr rfl)) (aw (bg (bO b9 (qi aB (qi aB (qi aB (qv 0) ak) (qv 3)) ak) (qv 1)) (aw (aM (qv 3))) aL)))) aL)
   (au (bg (hE (hV (bO b9 (qv 2) aX) (gm (bO qy (qx (j7 T) T.e_law_place hr aC (aa (qv 1) aq)) (iV T.n_len (qi aB (qv 0) ak)))))) (aw (aM (qx (j7 T) T.e_law_place hr aC (aa (qv 1) aq)))) aL)
   (aw (aM (pU lU ak))))))),
  (ay (aQ aW)
    (ay (bh (ck (pC ae)) (aQ (ao aA ae aj)) aK)
    (ay (bh (aF (ao (cb hr.units) ae aW)) (nW (cg eh (ao aA ae aj)) (bh (aF (ao (cb hr.units) (ao aA (ao aA (ao aA ae aj) ae) aj) ae)) eX aK)) aK)
    (ay (bh (ia (aF (ao (cb hr.units) ae aW)) (aF (ao rq (aE (af ae av)) (cg eh (ao aA ae aj))))) (aT (aE (af ae av))) aK)
    (aT (pI lx aj))))))⟩
theorem lV(T:Txt K mg t):∀ n,cn P w K mg base (CXE P w) (2+n) t.fk t.d_law_merged ["_law_one","_law_other"] (spP K (cp t) (b5 n))
 |0=>jq
 | n+1=>have ih:=lV T n
   hU T.e_law_merged.F dA fun _ _ _ _ _ _ hr=>⟨_,(au (bg (bO qI (bb ((eJ T).mono (by show _<=2+n;omega)) hr rfl T.e_law_kind.m T.e_law_kind.F.kp T.e_law_kind.b .nil aC (aa (qv 1) aq)) aX) (aw (aM (qv 1))) aL)
    (au (qz 2 dA.nd (fJ (by exact(bO b9 (bb ((eJ T).mono (by show _<=2+n;omega)) hr rfl T.e_law_kind.m T.e_law_kind.F.kp T.e_law_kind.b .nil aC (aa (qv 0) aq)) aX)) (qi aB (qv 0) ak) (aU aq)))
    (au (hX fi rfl (kU (qi aB (qv 1) ak)) (wj rfl (jI (eV (i:=3) dA.nd rfl (by first|exact Or.inl rfl|exact Or.inr rfl)) (jI (eV (i:=4) dA.nd rfl (by first|exact Or.inl rfl|exact Or.inr rfl)) tJ))) (au (qz 5 dA.nd (bb ((gX T).mono (by show _<=2+n;omega)) hr rfl T.e_law_index.m T.e_law_index.F.kp T.e_law_index.b .nil aC (aa (aU (aa aX (aa (qv 2) aq))) (aa (qv 3) aq))))
    (aw (bg (hE (hV (bO vO (qv 4) jc) (gm (bO yS (qv 5) ak)))) (aw (qz 2 dA.nd (aP df (cy dv (qv 2) dw (dk (qv 5))) (cy dv (qv 2) (dk (aP cV (qv 5) ak)) dw)))) (aw (bg (hE (hV (bO wH (qv 4) jc) (gm (bO yS (qv 5) ak)))) (aw (qz 2 dA.nd (aP df (aP df (cy dv (qv 2) dw (dk (qv 5))) (aU (aa (aU (aa (qv 3) (aa (bb ih hr rfl T.e_law_merged.m T.e_law_merged.F.kp T.e_law_merged.b .nil aC (aa (qi aB (qi aB (qv 2) (qv 5)) ak) (aa (qv 4) aq))) aq))) aq))) (cy dv (qv 2) (dk (aP cV (qv 5) ak)) dw)))) (aw (bg (bO wH (qv 4) jc) (aw (qz 2 dA.nd (aP df (qv 2) (aU (aa (aU (aa (qv 3) (aa (bb ih hr rfl T.e_law_merged.m T.e_law_merged.F.kp T.e_law_merged.b .nil aC (aa jc (aa (qv 4) aq))) aq))) aq))))) aL))))))))
    (aw (aM (aU (aa aX (aa (qv 2) aq)))))))),
   (ay (bh (aF (ao (qN hr.units) (aE (af ae av)) aW)) eX aK)
     (ay (aQ (mz (aF (ao (cb hr.units) (aE (af ae av)) aW)) (ao aA ae aj) (aV av)))
     (ay (qK (ao aA ae aj) (ay (aQ (aE (af (aV (af aW (af ae av))) (af ae av))))
     (bh (ia (aF (ao vz ae jZ)) (aF (ao yI ae aj))) (aQ (ao dh (dj ae dm (dq ae)) (dj ae (dq (ao cX ae aj)) dm))) (bh (ia (aF (ao wF ae jZ)) (aF (ao yI ae aj))) (aQ (ao dh (ao dh (dj ae dm (dq ae)) (aV (af (aV (af ae (af (aE (af (ao aA (ao aA ae ae) aj) (af ae av))) av))) av))) (dj ae (dq (ao cX ae aj)) dm))) (bh (aF (ao wF ae jZ)) (aQ (ao dh ae (aV (af (aV (af ae (af (aE (af jZ (af ae av))) av))) av)))) aK)))))
     (aT (aV (af aW (af ae av)))))))⟩
theorem rA(T:Txt K mg t):cn P w K mg base (CXE P w) 73 t.fk t.d_law_merged ["_law_one","_law_other"] (spP K (cp t) fk):=(lV T 70).mono (by decide)
theorem gL(T:Txt K mg t):cn P w K mg base (CXE P w) 3 t.cL t.d_law_get nC (spP K (cp t) cL):=
 hU T.e_law_get.F j3 fun _ _ _ _ _ _ hr=>⟨_,(au (hX fi rfl (kU (qv 1)) (eV (i:=2) j3.nd rfl (by first|exact Or.inl rfl|exact Or.inr rfl)) (au (qz 3 j3.nd (qx (gX T) T.e_law_index hr aC (aa (qv 0) (aa (qv 2) aq))))
   (au (bg (bO qy (qv 3) ak) (aw (aM (bT aq))) aL)
   (aw (qz 0 j3.nd (fJ (by exact(bO b9 (qi aB (qv 0) ak) aX)) (qi aB (qi aB (qv 0) ak) (qv 3)) (qi aB (qi aB (qi aB (qv 0) ak) (qv 3)) ak)))))))
   (aw (aM (bT (aa (qv 0) aq))))),
  (ay (oH ae (ay (aQ (aE (af ae (af ae av))))
    (ay (bh (aF (ao rq ae aj)) (aT (bW av)) aK)
    (aQ (mz (aF (ao (cb hr.units) (ao aA ae aj) aW)) (ao aA (ao aA ae aj) ae) (ao aA (ao aA (ao aA ae aj) ae) aj))))))
    (aT (bW (af ae av))))⟩
theorem i6(T:Txt K mg t):cn P w K mg base (CXE P w) 3 t.cM t.d_law_with lS (spP K (cp t) cM):=
 hU T.e_law_with.F lF fun _ _ _ _ _ _ hr=>⟨_,(au (qz 3 lF.nd (qx (gX T) T.e_law_index hr aC (aa (qv 0) (aa (qv 1) aq))))
   (au (qz 4 lF.nd (fJ (by exact(bO b9 (qi aB (qv 0) ak) aX)) (qv 2) (aU (aa (qv 1) (aa (qv 2) aq)))))
   (aw (aM (aU (aa (qi aB (qv 0) ak) (aa (aP df (aP df (cy dv (qi aB (qv 0) ak) dw (dk (qv 3))) (aU (aa (qv 4) aq))) (cy dv (qi aB (qv 0) ak) (dk (aP cV (qv 3) ak)) dw)) aq))))))),
  (ay (aQ (aE (af ae (af ae av))))
    (ay (aQ (mz (aF (ao (cb hr.units) (ao aA ae aj) aW)) ae (aV (af ae (af ae av)))))
    (aT (aV (af (ao aA ae aj) (af (ao dh (ao dh (dj (ao aA ae aj) dm (dq ae)) (aV (af ae av))) (dj (ao aA ae aj) (dq (ao cX ae aj)) dm)) av))))))⟩
theorem kB(T:Txt K mg t):∀ n,cn P w K mg base (CXE P w) (3+n) t.cS t.d_law_without ["_law_thing","_law_names"] (spP K (cp t) (bD n))
 |0=>jq
 | n+1=>have ih:=kB T n
   hU T.e_law_without.F iN fun _ _ _ _ _ _ hr=>⟨_,(au (bg (hE (rX (iY (bJ (qv 1) (fun _=>rfl))) (o8 (iY (bJ (bb ((gL T).mono (by show _<=3+n;omega)) hr rfl T.e_law_get.m T.e_law_get.F.kp T.e_law_get.b .nil aC (aa (qv 0) (aa (qv 1) aq))) (fun _=>rfl)))))) (aw (aM (bT aq))) aL)
    (au (bg (bO kr (iV T.n_len (qv 1)) ak) (au (qz 2 iN.nd (bb ((gX T).mono (by show _<=3+n;omega)) hr rfl T.e_law_index.m T.e_law_index.F.kp T.e_law_index.b .nil aC (aa (qv 0) (aa (qi aB (qv 1) ak) aq))))
    (aw (aM (bT (aa (aU (aa (qi aB (qv 0) ak) (aa (aP df (cy dv (qi aB (qv 0) ak) dw (dk (qv 2))) (cy dv (qi aB (qv 0) ak) (dk (aP cV (qv 2) ak)) dw)) aq))) aq))))) aL)
    (au (qz 3 iN.nd (bb ih hr rfl T.e_law_without.m T.e_law_without.F.kp T.e_law_without.b .nil aC (aa (qi bx (bb ((gL T).mono (by show _<=3+n;omega)) hr rfl T.e_law_get.m T.e_law_get.F.kp T.e_law_get.b .nil aC (aa (qv 0) (aa (cy dv (qv 1) dw (dk ak)) aq))) ak) (aa (cy dv (qv 1) (dk ak) dw) aq))))
    (aw (aM (bT (aa (bb ((i6 T).mono (by show _<=3+n;omega)) hr rfl T.e_law_with.m T.e_law_with.F.kp T.e_law_with.b .nil aC (aa (qv 0) (aa (qi aB (qv 1) ak) (aa (qi bx (qv 3) ak) aq)))) aq))))))),
   (ay (bh (rS (iX (ck ae)) (iX (ck (aE (af ae (af ae av)))))) (aT (bW av)) aK)
     (ay (bh (aF (ao kq (cg eh ae) aj)) (ay (aQ (aE (af ae (af (ao aA ae aj) av))))
     (aT (bW (af (aV (af (ao aA ae aj) (af (ao dh (dj (ao aA ae aj) dm (dq ae)) (dj (ao aA ae aj) (dq (ao cX ae aj)) dm)) av))) av)))) aK)
     (ay (aQ (aE (af (ao cN (aE (af ae (af (dj ae dm (dq aj)) av))) aj) (af (dj ae (dq aj) dm) av))))
     (aT (bW (af (aE (af ae (af (ao aA ae aj) (af (ao cN ae aj) av)))) av))))))⟩
theorem kQ(T:Txt K mg t):cn P w K mg base (CXE P w) 74 t.cS t.d_law_without ["_law_thing","_law_names"] (spP K (cp t) cS):=(kB T 70).mono (by decide)
theorem mT(T:Txt K mg t):∀ n,cn P w K mg base (CXE P w) (3+n) t.dy t.d_law_grown ["_law_thing","_law_names","_law_new"] (spP K (cp t) (bQ n))
 |0=>jq
 | n+1=>have ih:=mT T n
   hU T.e_law_grown.F fU fun _ _ _ _ _ _ hr=>⟨_,(au (bg (iY (bJ (qv 1) (fun _=>rfl))) (aw (aM (bT (aa (qv 2) aq)))) aL)
    (au (qz 3 fU.nd aX)
    (au (bg (bJ (gT jC rfl T.n_isinstance L2.E.boot_isinstance (aa (qv 0) (aa (lY (v:=.ty _) rfl T.n_tuple L2.E.boot_tuple rfl) aq))) (fun _=>rfl)) (aw (qz 3 fU.nd (qi aB (qv 0) ak))) aL)
    (au (qz 4 fU.nd (bb ((gX T).mono (by show _<=3+n;omega)) hr rfl T.e_law_index.m T.e_law_index.F.kp T.e_law_index.b .nil aC (aa (qv 0) (aa (qi aB (qv 1) ak) aq))))
    (au (bg (bO uR (iV T.n_len (qv 1)) ak) (au (bg (bO qy (qv 4) ak) (aw (aM (bT aq))) aL)
    (au (qz 5 fU.nd (bb ih hr rfl T.e_law_grown.m T.e_law_grown.F.kp T.e_law_grown.b .nil aC (aa (qi bx (bb ((gL T).mono (by show _<=3+n;omega)) hr rfl T.e_law_get.m T.e_law_get.F.kp T.e_law_get.b .nil aC (aa (qv 0) (aa (cy dv (qv 1) dw (dk ak)) aq))) ak) (aa (cy dv (qv 1) (dk ak) dw) (aa (qv 2) aq)))))
    (aw (aM (fJ (by exact(bJ (qv 5) (fun _=>rfl))) (bT (aa (bb ((i6 T).mono (by show _<=3+n;omega)) hr rfl T.e_law_with.m T.e_law_with.F.kp T.e_law_with.b .nil aC (aa (qv 0) (aa (qi aB (qv 1) ak) (aa (qi bx (qv 5) ak) aq)))) aq)) (bT aq)))))) aL)
    (au (bg (bO b9 (qv 3) aX) (au (bg (bO yS (qv 4) ak) (aw (aM (bT (aa (bb ((i6 T).mono (by show _<=3+n;omega)) hr rfl T.e_law_with.m T.e_law_with.F.kp T.e_law_with.b .nil aC (aa (qv 0) (aa (qi aB (qv 1) ak) (aa (qv 2) aq)))) aq)))) aL)
    (aw (aM (bT (aa (aU (aa aX (aa (aP df (qi aB (qv 0) ak) (aU (aa (aU (aa (qi aB (qv 1) ak) (aa (qv 2) aq))) aq))) aq))) aq))))) aL)
    (au (bg (bO qI (qv 3) aX) (aw (aM (bT aq))) aL)
    (au (qz 4 fU.nd (fJ (by exact(bO b9 (qi aB (qv 1) ak) (aU (aa ak aq)))) (iV T.n_len (qi aB (qv 0) ak)) (bb ((j7 T).mono (by show _<=3+n;omega)) hr rfl T.e_law_place.m T.e_law_place.F.kp T.e_law_place.b .nil aC (aa (qi aB (qv 1) ak) aq))))
    (au (bg (iY (uY sg sg ak (qv 4) (iV T.n_len (qi aB (qv 0) ak)))) (aw (aM (bT aq))) aL)
    (aw (aM (bT (aa (aU (aa aX (aa (aP df (aP df (cy dv (qi aB (qv 0) ak) dw (dk (qv 4))) (aU (aa (qv 2) aq))) (cy dv (qi aB (qv 0) ak) (dk (qv 4)) dw)) aq))) aq))))))))))))),
   (ay (bh (iX (ck ae)) (aT (bW (af ae av))) aK)
     (ay (aQ aW)
     (ay (bh (ck (pC ae)) (aQ (ao aA ae aj)) aK)
     (ay (aQ (aE (af ae (af (ao aA ae aj) av))))
     (ay (bh (aF (ao uO (cg eh ae) aj)) (ay (bh (aF (ao rq ae aj)) (aT (bW av)) aK)
     (ay (aQ (aE (af (ao cN (aE (af ae (af (dj ae dm (dq aj)) av))) aj) (af (dj ae (dq aj) dm) (af ae av)))))
     (aT (mz (ck ae) (bW (af (aE (af ae (af (ao aA ae aj) (af (ao cN ae aj) av)))) av)) (bW av))))) aK)
     (ay (bh (aF (ao (cb hr.units) ae aW)) (ay (bh (aF (ao yI ae aj)) (aT (bW (af (aE (af ae (af (ao aA ae aj) (af ae av)))) av))) aK)
     (aT (bW (af (aV (af aW (af (ao dh (ao aA ae aj) (aV (af (aV (af (ao aA ae aj) (af ae av))) av))) av))) av)))) aK)
     (ay (bh (aF (ao (qN hr.units) ae aW)) (aT (bW av)) aK)
     (ay (aQ (mz (aF (ao (cb hr.units) (ao aA ae aj) (aV (af aj av)))) (cg eh (ao aA ae aj)) (aE (af (ao aA ae aj) av))))
     (ay (bh (iX (aF (u3 rV rV aj ae (cg eh (ao aA ae aj))))) (aT (bW av)) aK)
     (aT (bW (af (aV (af aW (af (ao dh (ao dh (dj (ao aA ae aj) dm (dq ae)) (aV (af ae av))) (dj (ao aA ae aj) (dq ae) dm)) av))) av))))))))))))⟩
theorem j6(T:Txt K mg t):cn P w K mg base (CXE P w) 74 t.dy t.d_law_grown ["_law_thing","_law_names","_law_new"] (spP K (cp t) dy):=(mT T 70).mono (by decide)
theorem jy(T:Txt K mg t):∀ n,cn P w K mg base (CXE P w) (3+n) t.dR t.d_law_replaced ["_law_thing","_law_names","_law_new"] (spP K (cp t) (b8 n))
 |0=>jq
 | n+1=>have ih:=jy T n
   hU T.e_law_replaced.F kv fun _ _ _ _ _ _ hr=>⟨_,(au (bg (iY (bJ (bb ((gL T).mono (by show _<=3+n;omega)) hr rfl T.e_law_get.m T.e_law_get.F.kp T.e_law_get.b .nil aC (aa (qv 0) (aa (qv 1) aq))) (fun _=>rfl))) (aw (aM (bT aq))) aL)
    (au (bg (iY (bJ (qv 1) (fun _=>rfl))) (aw (aM (bT (aa (qv 2) aq)))) aL)
    (au (qz 3 kv.nd (bb ih hr rfl T.e_law_replaced.m T.e_law_replaced.F.kp T.e_law_replaced.b .nil aC (aa (qi bx (bb ((gL T).mono (by show _<=3+n;omega)) hr rfl T.e_law_get.m T.e_law_get.F.kp T.e_law_get.b .nil aC (aa (qv 0) (aa (cy dv (qv 1) dw (dk ak)) aq))) ak) (aa (cy dv (qv 1) (dk ak) dw) (aa (qv 2) aq)))))
    (aw (aM (bT (aa (bb ((i6 T).mono (by show _<=3+n;omega)) hr rfl T.e_law_with.m T.e_law_with.F.kp T.e_law_with.b .nil aC (aa (qv 0) (aa (qi aB (qv 1) ak) (aa (qi bx (qv 3) ak) aq)))) aq))))))),
   (ay (bh (iX (ck (aE (af ae (af ae av))))) (aT (bW av)) aK)
     (ay (bh (iX (ck ae)) (aT (bW (af ae av))) aK)
     (ay (aQ (aE (af (ao cN (aE (af ae (af (dj ae dm (dq aj)) av))) aj) (af (dj ae (dq aj) dm) (af ae av)))))
     (aT (bW (af (aE (af ae (af (ao aA ae aj) (af (ao cN ae aj) av)))) av))))))⟩
theorem p5(T:Txt K mg t):cn P w K mg base (CXE P w) 74 t.dR t.d_law_replaced ["_law_thing","_law_names","_law_new"] (spP K (cp t) dR):=(jy T 70).mono (by decide)
theorem mw(T:Txt K mg t):∀ n,cn P w K mg base (CXE P w) (1+n) t.fF t.d_law_alike ["_law_one","_law_other"] (spP K (cp t) (bP n))
 |0=>jq
 | n+1=>have ih:=mw T n
   hU T.e_law_alike.F iJ fun _ _ _ _ _ _ hr=>⟨_,(au (qz 2 iJ.nd (bb ((eJ T).mono (by show _<=1+n;omega)) hr rfl T.e_law_kind.m T.e_law_kind.F.kp T.e_law_kind.b .nil aC (aa (qv 0) aq)))
    (au (bg (hE (rX (bO qS (qv 2) aX) (o8 (bO D5 (qv 2) (bb ((eJ T).mono (by show _<=1+n;omega)) hr rfl T.e_law_kind.m T.e_law_kind.F.kp T.e_law_kind.b .nil aC (aa (qv 1) aq)))))) (aw (aM (zE (oO qS (qv 0) (qv 1) (pz _)) (yC (oO kr (gT jC rfl T.n_isinstance L2.E.boot_isinstance (aa (qv 0) (aa (lY (v:=.ty _) rfl T.n_tuple L2.E.boot_tuple rfl) aq))) (gT jC rfl T.n_isinstance L2.E.boot_isinstance (aa (qv 1) (aa (lY (v:=.ty _) rfl T.n_tuple L2.E.boot_tuple rfl) aq))) (pz _)))))) aL)
    (au (bg (bO Cd (iV T.n_len (qi aB (qv 0) ak)) (iV T.n_len (qi aB (qv 1) ak))) (aw (aM pR)) aL)
    (au (hX fi rfl (iL rfl T.n_range (aa (iV T.n_len (qi aB (qv 0) ak)) aq)) (eV (i:=3) iJ.nd rfl (by first|exact Or.inl rfl|exact Or.inr rfl)) (aw (bg (bO qS (qv 2) aX) (aw (bg (iY (bJ (bb ih hr rfl T.e_law_alike.m T.e_law_alike.F.kp T.e_law_alike.b .nil aC (aa (qi aB (qi aB (qv 0) ak) (qv 3)) (aa (qi aB (qi aB (qv 1) ak) (qv 3)) aq))) (fun _=>rfl))) (aw (aM pR)) aL)) (au (yi (i:=4) iJ.nd rfl (by first|exact Or.inl rfl|exact Or.inr rfl) (M:=["_law_one","_law_k"]) (ι:=[0,3]) (x:="_law_pair") ⟨rfl,rfl,rfl,rfl,rfl,rfl,rfl,rfl,rfl,rfl,rfl,by decide +kernel⟩ rfl (vK (qi aB (qv 1) ak)) (fun _ _ _ _=>(bO qS (qi aB (qv 2) ak) (qi aB (qi aB (qi aB (qv 0) ak) (qv 1)) ak))) fun _ _ _ _=>(qv 2))
    (aw (bg (hE (rX (bO Cd (iV T.n_len (qv 4)) ak) (o8 (iY (bJ (bb ih hr rfl T.e_law_alike.m T.e_law_alike.F.kp T.e_law_alike.b .nil aC (aa (qi aB (qi aB (qi aB (qv 0) ak) (qv 3)) ak) (aa (qi aB (qi bx (qv 4) ak) ak) aq))) (fun _=>rfl)))))) (aw (aM pR)) aL))))))
    (aw (aM pR)))))),
   (ay (aQ (aE (af ae av)))
     (ay (bh (rS (aF (ao (rj (unE hr)) ae aW)) (aF (ao (DH (unE hr)) ae (aE (af ae av))))) (aT (yz (ao (rj (unE hr)) ae ae) (ao kq (pC ae) (pC ae)))) aK)
     (ay (bh (aF (ao Cu (cg eh (ao aA ae aj)) (cg eh (ao aA ae aj)))) (aT pO) aK)
     (ay (nW (cg eh (ao aA ae aj)) (bh (aF (ao (rj (unE hr)) ae aW)) (bh (iX (ck (aE (af (ao aA (ao aA ae aj) ae) (af (ao aA (ao aA ae aj) ae) av))))) (aT pO) aK) (ay (aQ (vf (by decide) (ao aA ae aj) (aF (ao (rj (unE hr)) (ao aA ae aj) (ao aA (ao aA (ao aA ae aj) ae) aj))) ae))
     (bh (rS (aF (ao Cu (cg eh ae) aj)) (iX (ck (aE (af (ao aA (ao aA (ao aA ae aj) ae) aj) (af (ao aA (ao cN ae aj) aj) av)))))) (aT pO) aK))))
     (aT pO)))))⟩
theorem tw(T:Txt K mg t):cn P w K mg base (CXE P w) 72 t.fF t.d_law_alike ["_law_one","_law_other"] (spP K (cp t) fF):=(mw T 70).mono (by decide)
theorem uZ(T:Txt K mg t):cn P w K mg base (CXE P w) 75 t.bN t.d_law_done lG (spP K (cp t) bN):=
 hU T.e_law_done.F kK fun _ _ _ _ _ _ hr=>⟨_,(au (bg (bO b9 (qi aB (qv 1) ak) aX) (aw (aM (qx (j6 T) T.e_law_grown hr aC (aa (qv 0) (aa (qi aB (qv 1) ak) (aa (qi aB (qv 1) ak) aq)))))) aL)
   (au (bg (bO b9 (qi aB (qv 1) ak) aX) (aw (aM (qx (kQ T) T.e_law_without hr aC (aa (qv 0) (aa (qi aB (qv 1) ak) aq))))) aL)
   (au (bg (bO b9 (qi aB (qv 1) ak) aX) (aw (aM (qx (p5 T) T.e_law_replaced hr aC (aa (qv 0) (aa (qi aB (qv 1) ak) (aa (qi aB (qv 1) ak) aq)))))) aL)
   (au (qz 2 kK.nd (qx (gL T) T.e_law_get hr aC (aa (qv 0) (aa (qi aB (qv 1) ak) aq))))
   (au (bg (iY (bJ (qv 2) (fun _=>rfl))) (aw (aM (bT aq))) aL)
   (au (bg (bO b9 (qi aB (qv 1) ak) aX) (aw (aM (fJ (by exact(bJ (qx (tw T) T.e_law_alike hr aC (aa (qi bx (qv 2) ak) (aa (qi aB (qv 1) ak) aq))) (fun _=>rfl))) (bT (aa (qv 0) aq)) (bT aq)))) aL)
   (au (bg (bO b9 (qi aB (qv 1) ak) aX) (aw (aM (qx (j6 T) T.e_law_grown hr aC (aa (qv 0) (aa (qi aB (qv 1) ak) (aa (qi bx (qv 2) ak) aq)))))) aL)
   (au (bg (hE (hV (bO qy (iV T.n_len (qi aB (qv 1) ak)) (iV T.n_len (qi aB (qv 1) ak))) (gm (bO b9 (cy dv (qi aB (qv 1) ak) dw (dk (iV T.n_len (qi aB (qv 1) ak)))) (qi aB (qv 1) ak))))) (aw (aM (bT aq))) aL)
   (au (qz 3 kK.nd (qx (kQ T) T.e_law_without hr aC (aa (qv 0) (aa (qi aB (qv 1) ak) aq))))
   (aw (aM (fJ (by exact(bJ (qv 3) (fun _=>rfl))) (qx (j6 T) T.e_law_grown hr aC (aa (qi bx (qv 3) ak) (aa (qi aB (qv 1) ak) (aa (qi bx (qv 2) ak) aq)))) (bT aq))))))))))))),
  (ay (bh (aF (ao (cb hr.units) (ao aA ae aj) aW)) (aT (aE (af ae (af (ao aA ae aj) (af (ao aA ae aj) av))))) aK)
    (ay (bh (aF (ao (cb hr.units) (ao aA ae aj) aW)) (aT (aE (af ae (af (ao aA ae aj) av)))) aK)
    (ay (bh (aF (ao (cb hr.units) (ao aA ae aj) aW)) (aT (aE (af ae (af (ao aA ae aj) (af (ao aA ae aj) av))))) aK)
    (ay (aQ (aE (af ae (af (ao aA ae aj) av))))
    (ay (bh (iX (ck ae)) (aT (bW av)) aK)
    (ay (bh (aF (ao (cb hr.units) (ao aA ae aj) aW)) (aT (mz (ck (aE (af (ao cN ae aj) (af (ao aA ae aj) av)))) (bW (af ae av)) (bW av))) aK)
    (ay (bh (aF (ao (cb hr.units) (ao aA ae aj) aW)) (aT (aE (af ae (af (ao aA ae aj) (af (ao cN ae aj) av))))) aK)
    (ay (bh (ia (aF (ao rq (cg eh (ao aA ae aj)) (cg eh (ao aA ae aj)))) (aF (ao (cb hr.units) (dj (ao aA ae aj) dm (dq (cg eh (ao aA ae aj)))) (ao aA ae aj)))) (aT (bW av)) aK)
    (ay (aQ (aE (af ae (af (ao aA ae aj) av))))
    (aT (mz (ck ae) (aE (af (ao cN ae aj) (af (ao aA ae aj) (af (ao cN ae aj) av)))) (bW av))))))))))))⟩
theorem u5(T:Txt K mg t):cn P w K mg base (CXE P w) 1 t.gG t.d_law_ways lq (spP K (cp t) gG):=
 hU T.e_law_ways.F dz fun _ _ _ _ _ _ hr=>⟨_,(au (qz 1 dz.nd (bT (aa (aU (aa (aU aq) (aa (qv 0) aq))) aq)))
   (au (qz 2 dz.nd ak)
   (au (uM fi (bO qy (qv 2) (iV T.n_len (qv 1))) (au (qz 3 dz.nd (qi aB (qi bx (qv 1) (qv 2)) ak))
   (au (qz 4 dz.nd (qi aB (qi bx (qv 1) (qv 2)) ak))
   (au (qz 5 dz.nd aX)
   (au (bg (bJ (gT jC rfl T.n_isinstance L2.E.boot_isinstance (aa (qv 4) (aa (lY (v:=.ty _) rfl T.n_tuple L2.E.boot_tuple rfl) aq))) (fun _=>rfl)) (aw (qz 5 dz.nd (qi aB (qv 4) ak))) aL)
   (au (bg (bO b9 (qv 5) aX) (aw (hX fi rfl (iL rfl T.n_range (aa (iV T.n_len (qi aB (qv 4) ak)) aq)) (eV (i:=6) dz.nd rfl (by first|exact Or.inl rfl|exact Or.inr rfl)) (aw (qap fS (qv 1) (aU (aa (aP df (qv 3) (aU (aa (ft eP rfl T.n_tuple L2.E.boot_tuple (aa (qa (M:=[]) (ι:=[]) (x:="_law_sign") ⟨rfl,rfl,rfl,rfl,rfl,rfl,rfl,rfl,rfl,rfl,rfl,by decide +kernel⟩ rfl (Ei (ft tM rfl T.n_str L2.E.boot_str (aa (qv 6) aq))) fun _ _ _ _=>(gT y1 rfl T.n_ord L2.E.boot_ord (aa (qv 0) aq))) aq)) aq))) (aa (qi aB (qi aB (qv 4) ak) (qv 6)) aq))))))) aL)
   (au (bg (bO b9 (qv 5) aX) (aw (hX fi rfl (kU (qi aB (qv 4) ak)) (eV (i:=7) dz.nd rfl (by first|exact Or.inl rfl|exact Or.inr rfl)) (aw (qap fS (qv 1) (aU (aa (aP df (qv 3) (aU (aa (qi aB (qv 7) ak) aq))) (aa (qi aB (qv 7) ak) aq))))))) aL)
   (aw (qz 2 dz.nd (aP cV (qv 2) ak))))))))))
   (aw (aM (qv 1)))))),
  (ay (aQ (bW (af (aV (af (aV av) (af ae av))) av)))
    (ay (aQ aj)
    (ay (uv (aF (ao rq ae (cg eh ae))) (ay (aQ (ao aA (ao cN ae ae) aj))
    (ay (aQ (ao aA (ao cN ae ae) aj))
    (ay (aQ aW)
    (ay (bh (ck (pC ae)) (aQ (ao aA ae aj)) aK)
    (ay (bh (aF (ao (cb hr.units) ae aW)) (nW (cg eh (ao aA ae aj)) (o4 (aV (af (ao dh ae (aV (af (cg nJ (zb (by decide) (cg CV ae) (cg Dg ae))) av))) (af (ao aA (ao aA ae aj) ae) av))))) aK)
    (ay (bh (aF (ao (cb hr.units) ae aW)) (oH (ao aA ae aj) (o4 (aV (af (ao dh ae (aV (af (ao aA ae aj) av))) (af (ao aA ae aj) av))))) aK)
    (aQ (ao cX ae aj)))))))))
    eX)))⟩
theorem kW(T:Txt K mg t):∀ n,cn P w K mg base (CXE P w) (1+n) t.fm t.d_law_turned ["_law_thing","_law_number"] (spP K (cp t) (bF n))
 |0=>jq
 | n+1=>have ih:=kW T n
   hU T.e_law_turned.F ij fun _ _ _ _ _ _ hr=>⟨_,(au (qz 2 ij.nd (bb ((eJ T).mono (by show _<=1+n;omega)) hr rfl T.e_law_kind.m T.e_law_kind.F.kp T.e_law_kind.b .nil aC (aa (qv 0) aq)))
    (au (bg (bO b9 (qv 2) aX) (aw (aM (qv 0))) aL)
    (au (bg (bO b9 (qv 2) aX) (aw (aM (aU (aa aX (aa (ft eP rfl T.n_tuple L2.E.boot_tuple (aa (qa (M:=["_law_number"]) (ι:=[1]) (x:="_law_part") ⟨rfl,rfl,rfl,rfl,rfl,rfl,rfl,rfl,rfl,rfl,rfl,by decide +kernel⟩ rfl (vK (qi aB (qv 0) ak)) fun _ _ _ _=>(bb ih hr rfl T.e_law_turned.m T.e_law_turned.F.kp T.e_law_turned.b .nil vX (aa (qv 1) (aa (aP fz (qv 0) ak) aq)))) aq)) aq))))) aL)
    (au (qz 3 ij.nd (aP b4 (qv 1) (aP cV (iV T.n_len (qi aB (qv 0) ak)) ak)))
    (au (qz 4 ij.nd (aP df (cy dv (qi aB (qv 0) ak) (dk (qv 3)) dw) (cy dv (qi aB (qv 0) ak) dw (dk (qv 3)))))
    (aw (aM (aU (aa aX (aa (ft eP rfl T.n_tuple L2.E.boot_tuple (aa (qa (M:=["_law_number"]) (ι:=[1]) (x:="_law_pair") ⟨rfl,rfl,rfl,rfl,rfl,rfl,rfl,rfl,rfl,rfl,rfl,by decide +kernel⟩ rfl (vK (qv 4)) fun _ _ _ _=>(aU (aa (qi aB (qv 1) ak) (aa (bb ih hr rfl T.e_law_turned.m T.e_law_turned.F.kp T.e_law_turned.b .nil vX (aa (qi aB (qv 1) ak) (aa (aP fz (qv 0) ak) aq))) aq)))) aq)) aq)))))))))),
   (ay (aQ (aE (af ae av)))
     (ay (bh (aF (ao (cb hr.units) ae aW)) eX aK)
     (ay (bh (aF (ao (cb hr.units) ae aW)) (aT (aV (af aW (af (cg nJ (uy (by decide) (ao aA ae aj) (aE (af ae (af (ao fB ae aj) av))))) av)))) aK)
     (ay (aQ (ao b6 ae (ao cX (cg eh (ao aA ae aj)) aj)))
     (ay (aQ (ao dh (dj (ao aA ae aj) (dq ae) dm) (dj (ao aA ae aj) dm (dq ae))))
     (aT (aV (af aW (af (cg nJ (uy (by decide) ae (aV (af (ao aA ae aj) (af (aE (af (ao aA ae aj) (af (ao fB ae aj) av))) av))))) av)))))))))⟩
theorem rL(T:Txt K mg t):cn P w K mg base (CXE P w) 72 t.fm t.d_law_turned ["_law_thing","_law_number"] (spP K (cp t) fm):=(kW T 70).mono (by decide)
theorem ub(T:Txt K mg t):cn P w K mg base (CXE P w) 73 t.gK t.d_law_deed lN (spP K (cp t) gK):=
 hU T.e_law_deed.F cj fun _ _ _ _ _ _ hr=>⟨_,(au (qz 3 cj.nd (qx (u5 T) T.e_law_ways hr aC (aa (qv 2) aq)))
   (au (qz 4 cj.nd (qi aB (qi bx (qv 3) (aP b4 (qx (dQ T) T.cC hr aC (aa (qv 0) (aa (qv 1) aq))) (iV T.n_len (qv 3)))) ak))
   (au (qz 5 cj.nd (qi aB (qi bx (qv 3) (aP b4 (qx (dQ T) T.cC hr aC (aa (qv 0) (aa (aP cV (qv 1) ak) aq))) (iV T.n_len (qv 3)))) ak))
   (au (qz 6 cj.nd (qx (dQ T) T.cC hr aC (aa (qv 0) (aa (aP cV (qv 1) ak) aq))))
   (au (qz 7 cj.nd (bT (aa (aU aq) (aa (aU (aa (aU (aa ak aq)) aq)) (aa (aU (aa (aU (aa ak aq)) aq)) (aa (aU (aa (qx (iI T) T.e_law_named hr aC (aa (aP b4 (aP fz (qv 6) ak) ak) aq)) aq)) (aa (aU (aa (ft eP rfl T.n_tuple L2.E.boot_tuple (aa (bT (aa (aP cV ak (aP b4 (aP fz (qv 6) ak) ak)) aq)) aq)) aq)) (aa (aU (aa (aU (aa ak (aa ak aq))) aq)) aq))))))))
   (au (bg (bO kr (aP b4 (qv 6) ak) ak) (aw (qz 4 cj.nd (aP df (qv 4) (qi bx (qv 7) (aP b4 (aP fz (qv 6) ak) ak))))) aL)
   (au (bg (bO kr (aP b4 (qv 6) ak) ak) (aw (qz 5 cj.nd (aP df (qv 5) (qi bx (qv 7) (aP b4 (aP fz (qv 6) ak) ak))))) aL)
   (au (qz 8 cj.nd (qi bx (bT (aa aX (aa aX (aa aX (aa aX (aa aX (aa aX aq))))))) (aP b4 (qx (dQ T) T.cC hr aC (aa (qv 0) (aa (aP cV (qv 1) ak) aq))) ak)))
   (au (bg (hE (hV (bO b9 (qv 8) aX) (gm (bO kr (aP b4 (aP fz (qv 6) ak) ak) ak)))) (aw (qz 5 cj.nd (aP df (qv 4) (aU (aa (qx (iI T) T.e_law_named hr aC (aa (aP b4 (aP fz (qv 6) ak) ak) aq)) aq))))) aL)
   (au (qz 9 cj.nd (qx (n6 T) T.e_law_clean hr aC (aa (qv 0) (aa (aP cV (qv 1) ak) (aa (aP cV ak (aP b4 (qx (dQ T) T.cC hr aC (aa (qv 0) (aa (aP cV (qv 1) ak) aq))) ak)) aq)))))
   (au (bg (bO b9 (qv 8) aX) (aw (aM (aU (aa (qv 8) (aa (qv 5) (aa (qv 9) aq)))))) aL)
   (au (bg (bO b9 (qv 8) aX) (aw (aM (aU (aa (qv 8) (aa (qv 4) aq))))) aL)
   (au (bg (bO b9 (qv 8) aX) (aw (aM (aU (aa (qv 8) (aa (qv 4) (aa (qv 9) aq)))))) aL)
   (au (bg (bO b9 (qv 8) aX) (au (qz 10 cj.nd (qx (gL T) T.e_law_get hr aC (aa (qv 2) (aa (qv 4) aq))))
   (au (bg (hE (hV (bJ (qv 10) (fun _=>rfl)) (gm (bO uR (aP b4 (qv 6) ak) ak)))) (aw (qz 9 cj.nd (qx (rL T) T.e_law_turned hr aC (aa (qi bx (qv 10) ak) (aa (qv 6) aq))))) aL)
   (aw (aM (aU (aa (qv 8) (aa (qv 4) (aa (qv 9) aq)))))))) aL)
   (aw (aM (aU (aa (qv 8) (aa (qv 4) (aa (qv 5) aq)))))))))))))))))))),
  (ay (aQ (aE (af ae av)))
    (ay (aQ (ao aA (ao cN ae (ao b6 (aE (af ae (af ae av))) (cg eh ae))) aj))
    (ay (aQ (ao aA (ao cN ae (ao b6 (aE (af ae (af (ao cX ae aj) av))) (cg eh ae))) aj))
    (ay (aQ (aE (af ae (af (ao cX ae aj) av))))
    (ay (aQ (bW (af (aV av) (af (aV (af (aV (af aj av)) av)) (af (aV (af (aV (af aj av)) av)) (af (aV (af (aE (af (ao b6 (ao fB ae aj) aj) av)) av)) (af (aV (af (cg nJ (bW (af (ao cX aj (ao b6 (ao fB ae aj) aj)) av))) av)) (af (aV (af (aV (af aj (af aj av))) av)) av))))))))
    (ay (bh (aF (ao kq (ao b6 ae aj) aj)) (aQ (ao dh ae (ao cN ae (ao b6 (ao fB ae aj) aj)))) aK)
    (ay (bh (aF (ao kq (ao b6 ae aj) aj)) (aQ (ao dh ae (ao cN ae (ao b6 (ao fB ae aj) aj)))) aK)
    (ay (aQ (ao cN (bW (af aW (af aW (af aW (af aW (af aW (af aW av))))))) (ao b6 (aE (af ae (af (ao cX ae aj) av))) aj)))
    (ay (bh (ia (aF (ao (cb hr.units) ae aW)) (aF (ao kq (ao b6 (ao fB ae aj) aj) aj))) (aQ (ao dh ae (aV (af (aE (af (ao b6 (ao fB ae aj) aj) av)) av)))) aK)
    (ay (aQ (aE (af ae (af (ao cX ae aj) (af (ao cX aj (ao b6 (aE (af ae (af (ao cX ae aj) av))) aj)) av)))))
    (ay (bh (aF (ao (cb hr.units) ae aW)) (aT (aV (af ae (af ae (af ae av))))) aK)
    (ay (bh (aF (ao (cb hr.units) ae aW)) (aT (aV (af ae (af ae av)))) aK)
    (ay (bh (aF (ao (cb hr.units) ae aW)) (aT (aV (af ae (af ae (af ae av))))) aK)
    (ay (bh (aF (ao (cb hr.units) ae aW)) (ay (aQ (aE (af ae (af ae av))))
    (ay (bh (ia (ck ae) (aF (ao uO (ao b6 ae aj) aj))) (aQ (aE (af (ao cN ae aj) (af ae av)))) aK)
    (aT (aV (af ae (af ae (af ae av))))))) aK)
    (aT (aV (af ae (af ae (af ae av)))))))))))))))))))⟩
theorem oP(T:Txt K mg t):∀ n,cn P w K mg base (CXE P w) (1+n) t.gD t.d_law_size ["_law_thing"] (spP K (cp t) (cH n))
 |0=>jq
 | n+1=>have ih:=oP T n
   hU T.e_law_size.F il fun _ _ _ _ _ _ hr=>⟨_,(au (qz 1 il.nd (bb ((eJ T).mono (by show _<=1+n;omega)) hr rfl T.e_law_kind.m T.e_law_kind.F.kp T.e_law_kind.b .nil aC (aa (qv 0) aq)))
    (au (qz 2 il.nd ak)
    (au (bg (bO qI (qv 1) aX) (aw (hX fi rfl (kU (qi aB (qv 0) ak)) (eV (i:=3) il.nd rfl (by first|exact Or.inl rfl|exact Or.inr rfl)) (aw (qz 2 il.nd (aP cV (qv 2) (bb ih hr rfl T.e_law_size.m T.e_law_size.F.kp T.e_law_size.b .nil aC (aa (fJ (by exact(bO b9 (qv 1) aX)) (qv 3) (qi aB (qv 3) ak)) aq))))))) aL)
    (aw (aM (qv 2)))))),
   (ay (aQ (aE (af ae av)))
     (ay (aQ aj)
     (ay (bh (aF (ao (qN hr.units) ae aW)) (oH (ao aA ae aj) (aQ (ao cX ae (aE (af (mz (aF (ao (cb hr.units) ae aW)) ae (ao aA ae aj)) av))))) aK)
     eX)))⟩
theorem uI(T:Txt K mg t):cn P w K mg base (CXE P w) 142 t.gD t.d_law_size ["_law_thing"] (spP K (cp t) gD):=(oP T 140).mono (by decide)
theorem oR(T:Txt K mg t):∀ n,cn P w K mg base (CXE P w) (1+n) t.gB t.d_law_deep ["_law_thing"] (spP K (cp t) (cJ n))
 |0=>jq
 | n+1=>have ih:=oR T n
   hU T.e_law_deep.F ir fun _ _ _ _ _ _ hr=>⟨_,(au (qz 1 ir.nd (bb ((eJ T).mono (by show _<=1+n;omega)) hr rfl T.e_law_kind.m T.e_law_kind.F.kp T.e_law_kind.b .nil aC (aa (qv 0) aq)))
    (au (bg (bO b9 (qv 1) aX) (aw (aM ak)) aL)
    (au (qz 2 ir.nd ak)
    (au (hX fi rfl (kU (qi aB (qv 0) ak)) (eV (i:=3) ir.nd rfl (by first|exact Or.inl rfl|exact Or.inr rfl)) (aw (qz 2 ir.nd (gT (xX rfl) rfl T.n_max L2.E.boot_max (aa (qv 2) (aa (bb ih hr rfl T.e_law_deep.m T.e_law_deep.F.kp T.e_law_deep.b .nil aC (aa (fJ (by exact(bO b9 (qv 1) aX)) (qv 3) (qi aB (qv 3) ak)) aq)) aq))))))
    (aw (aM (aP cV ak (qv 2)))))))),
   (ay (aQ (aE (af ae av)))
     (ay (bh (aF (ao (cb hr.units) ae aW)) (aT aj) aK)
     (ay (aQ aj)
     (ay (oH (ao aA ae aj) (aQ (BO ae (aE (af (mz (aF (ao (cb hr.units) ae aW)) ae (ao aA ae aj)) av)))))
     (aT (ao cX aj ae))))))⟩
theorem ue(T:Txt K mg t):cn P w K mg base (CXE P w) 142 t.gB t.d_law_deep ["_law_thing"] (spP K (cp t) gB):=(oR T 140).mono (by decide)
theorem uw(T:Txt K mg t):cn P w K mg base (CXE P w) 143 t.fH t.d_law_fits kP (spP K (cp t) fH):=
 hU T.e_law_fits.F uE fun _ _ _ _ _ _ hr=>⟨_,(aw (aM (zE (oO sg (qx (uI T) T.e_law_size hr aC (aa (qv 0) aq)) ak (pz _)) (yC (oO sg (qx (ue T) T.e_law_deep hr aC (aa (qv 0) aq)) ak (pz _)))))),
  (aT (yz (ao rV (aE (af ae av)) aj) (ao rV (aE (af ae av)) aj)))⟩
theorem Ep(T:Txt K mg t):cn P w K mg base (CXE P w) 144 t.ua t.d_law vq (spP K (cp t) ua):=
 hU T.zq.F ke fun _ _ _ _ _ _ hr=>⟨_,(au (qz 1 ke.nd (qx (mx T) T.e_law_fields hr aC (aa (qv 0) (aa ak (aa (aP cV ak (aP b4 (qx (dQ T) T.cC hr aC (aa (qv 0) (aa ak aq))) ak)) aq)))))
   (au (qz 2 ke.nd (qx (mx T) T.e_law_fields hr aC (aa (qv 0) (aa ak (aa (aP cV ak (aP b4 (qx (dQ T) T.cC hr aC (aa (qv 0) (aa ak aq))) ak)) aq)))))
   (au (bg (bO kr (aP b4 (qx (dQ T) T.cC hr aC (aa (qv 0) (aa ak aq))) ak) ak) (au (qz 2 ke.nd (qv 1))
   (au (hX fi rfl (iL rfl T.n_range (aa (aP b4 (qx (dQ T) T.cC hr aC (aa (qv 0) (aa ak aq))) ak) aq)) (eV (i:=3) ke.nd rfl (by first|exact Or.inl rfl|exact Or.inr rfl)) (au (qz 4 ke.nd (qx (uZ T) T.e_law_done hr aC (aa (qv 2) (aa (qx (ub T) T.e_law_deed hr aC (aa (qv 0) (aa (aP cV ak (aP o6 ak (qv 3))) (aa (qv 2) aq)))) aq))))
   (aw (bg (hE (hV (bJ (qv 4) (fun _=>rfl)) (gm (bJ (qx (uw T) T.e_law_fits hr aC (aa (qi bx (qv 4) ak) aq)) (fun _=>rfl))))) (aw (qz 2 ke.nd (qi bx (qv 4) ak))) aL))))
   (aw (qz 2 ke.nd (qx (tZ T) T.e_law_holed hr aC (aa (qv 2) (aa (qx (dQ T) T.cC hr aC (aa (qv 0) (aa ak aq))) aq))))))) aL)
   (au (qz 5 ke.nd (qx (x9 T) T.i2 hr aC (aa (qv 1) (aa (qv 2) aq))))
   (aw (aM (oO qS (qv 5) (qx (rA T) T.e_law_merged hr aC (aa (qv 1) (aa (qv 2) aq))) (pz _)))))))),
  (ay (aQ (aE (af ae (af aj (af (ao cX aj (ao b6 (aE (af ae (af aj av))) aj)) av)))))
    (ay (aQ (aE (af ae (af aj (af (ao cX aj (ao b6 (aE (af ae (af aj av))) aj)) av)))))
    (ay (bh (aF (ao kq (ao b6 (aE (af ae (af aj av))) aj) aj)) (ay (aQ ae)
    (ay (nW (ao b6 (aE (af ae (af aj av))) aj) (ay (aQ (aE (af ae (af (aE (af ae (af (ao cX aj (ao pB aj ae)) (af ae av)))) av))))
    (bh (ia (ck ae) (ck (aE (af (ao cN ae aj) av)))) (aQ (ao cN ae aj)) aK)))
    (aQ (aE (af ae (af (aE (af ae (af aj av))) av)))))) aK)
    (ay (aQ (aE (af ae (af ae av))))
    (aT (ao (rj (unE hr)) ae (aE (af ae (af ae av)))))))))⟩
end
open PySem.W in
theorem all_mk{l:PySem.W.OpenLaw}{w:World}{K:PySem.W.Frag}{h:Heap}{mg:Str->Option Value}{fa:Addr}(X:K.In h)(G:h.Ns mainGlobals mg)(hfa:mg "law" = some (.ref fa))
  (h0:Fd K "kind_of" pk f0 d0)
  (h1:Fd K "merged" rf f1 d1)
  (h2:Fd K "members_of" km f2 d2)
  (h3:Fd K "_law_cell" nB f3 d3)
  (h4:Fd K "_law_mix" pw f4 d4)
  (h5:Fd K "_law_named" lJ f5 d5)
  (h6:Fd K "_law_small_value" gS f6 d6)
  (h7:Fd K "_law_put_in" j5 f7 d7)
  (h8:Fd K "_law_shut" nA f8 d8)
  (h9:Fd K "_law_clean" lD f9 d9)
  (h10:Fd K "_law_kind" nv f10 d10)
  (h11:Fd K "_law_alike" lC f11 d11)
  (h12:Fd K "_law_turned" kg f12 d12)
  (h13:Fd K "_law_ways" m4 f13 d13)
  (h14:Fd K "_law_place" lg f14 d14)
  (h15:Fd K "_law_index" lT f15 d15)
  (h16:Fd K "_law_get" pd f16 d16)
  (h17:Fd K "_law_with" nu f17 d17)
  (h18:Fd K "_law_grown" lQ f18 d18)
  (h19:Fd K "_law_without" jo f19 d19)
  (h20:Fd K "_law_replaced" iZ f20 d20)
  (h21:Fd K "_law_done" nK f21 d21)
  (h22:Fd K "_law_deep" nI f22 d22)
  (h23:Fd K "_law_size" nz f23 d23)
  (h24:Fd K "_law_fits" mZ f24 d24)
  (h25:Fd K "_law_deed" nG f25 d25)
  (h26:Fd K "_law_merged" jY f26 d26)
  (h27:Fd K "_law_fields" j0 f27 d27)
  (h28:Fd K "_law_holed" kL f28 d28)
  (a29:nsIn K mainGlobals "law" = some (some (.ref f29))) (l29:K.lookup f29=some ⟨oc29,od29,.func (fnOf "law" "law" (g8 vb) (eU vb) (aJ vb) .none kV29 dc29 pm29 an29 cd29 ct29),sl29⟩) (c29:codeIn K cd29 "law" = true) (k29:keepIn K (.ref f29)=true)
  (z0:nsIn K mainGlobals "tuple" = some none)
  (z1:nsIn K mainGlobals "dict" = some none)
  (z2:nsIn K mainGlobals "len" = some none)
  (z3:nsIn K mainGlobals "range" = some none)
  (z4:nsIn K mainGlobals "isinstance" = some none)
  (z5:nsIn K mainGlobals "ord" = some none)
  (z6:nsIn K mainGlobals "str" = some none)
  (z7:nsIn K mainGlobals "max" = some none):
  ∃ fd:FuncData,(∀(s:Shared) (v:Value),BindsTo s fd ⟨[v],[]⟩ [("_law_script",v)]) /\ ∀ base:Heap,K.In base->base.Ns mainGlobals mg->cn l.prog w K mg base (CXE l.prog w) 144 fa fd ["_law_script"] (sX K):=by
 have e:=hfa.symm.trans (PySem.W.mg_of X G a29);cases e
 have T:Txt K mg ⟨f0,d0,f1,d1,f2,d2,f3,d3,f4,d4,f5,d5,f6,d6,f7,d7,f8,d8,f9,d9,f10,d10,f11,d11,f12,d12,f13,d13,f14,d14,f15,d15,f16,d16,f17,d17,f18,d18,f19,d19,f20,d20,f21,d21,f22,d22,f23,d23,f24,d24,f25,d25,f26,d26,f27,d27,f28,d28,f29,_⟩:=⟨h0.e1 X G,
  h1.e2 X G,
  h2.e1 X G,
  h3.e2 X G,
  h4.e2 X G,
  h5.e1 X G,
  h6.e1 X G,
  h7.e2 X G,
  h8.e1 X G,
  h9.e3 X G,
  h10.e1 X G,
  h11.e2 X G,
  h12.e2 X G,
  h13.e1 X G,
  h14.e1 X G,
  h15.e2 X G,
  h16.e2 X G,
  h17.e3 X G,
  h18.e3 X G,
  h19.e2 X G,
  h20.e3 X G,
  h21.e2 X G,
  h22.e1 X G,
  h23.e1 X G,
  h24.e1 X G,
  h25.e3 X G,
  h26.e2 X G,
  h27.e3 X G,
  h28.e2 X G,
  (dZ a29 l29 c29 k29).e1 X G,
  PySem.W.mg_none_of X G z0,
  PySem.W.mg_none_of X G z1,
  PySem.W.mg_none_of X G z2,
  PySem.W.mg_none_of X G z3,
  PySem.W.mg_none_of X G z4,
  PySem.W.mg_none_of X G z5,
  PySem.W.mg_none_of X G z6,
  PySem.W.mg_none_of X G z7⟩
 exact⟨_,fun s v=>.of_eq rfl,fun base _ _=>(Ep T).imp (Ar fun ns h=>zq ns h)⟩
theorem walk{l:PySem.W.OpenLaw}{q:Program}{loose:List Str}{XP:(Str->Option Value)->Heap->Prop}{YP:World->Heap->Prop}{d:DefRec}{K:Params->PySem.W.Frag}(hn:l.most=some 63)(hdf:d.params.defaults=[])
  (hY:∀(w:World) (h:Heap),YP w h->(K w.params).In h)
  (F:∀(w:World) (mg:Str->Option Value) (fa:Addr) (h:Heap),(K w.params).In h->h.Ns mainGlobals mg->mg d.name=some (.ref fa) ->
    ∃ fd:FuncData,(∀(s:Shared) (u:Value),BindsTo s fd ⟨[u],[]⟩ [("_law_script",u)]) /\ ∀ base:Heap,(K w.params).In base->base.Ns mainGlobals mg->cn l.prog w (K w.params) mg base (CXE l.prog w) 144 fa fd ["_law_script"] (sX (K w.params))):
  PySem.W.WalkO q loose XP YP l.row.toRowW d [] (fun f vs=>PySem.call f vs):=
 L2.BC (n:=63) (k:=144) (x:="_law_script") (CX:=fun w=>CXE l.prog w) (sp:=fun w=>sX (K w.params)) hn (by decide) hdf ⟨rfl,by decide,by decide⟩ hY F (fun _ _ a ns hl _ hS=>⟨a,ns,rfl,hS,hl,fun _=>rfl⟩) fun _ _ _ _ _ z=>let ⟨_,_,_,_,_,_,_,_,_,_,f⟩:=z;f
end L2.plainglass_k53_merged
open PySem PySem.W PyProof.Rows
namespace PySem.W.Fast
def tw12800059271367215630:=0
def tw9585192078981392764:=0
def tw3604242550210616726:=0
def tw207082702742750062:=0
def tw18114479199157806876:=0
def tw16444295570342521673:=0
def tw8531724922821052772:=0
def tw13530894494958983513:=0
def tw6557449098594098888:=0
def tw8605419116244729039:=0
def tw4879071388097395171:=0
def tw16418197458934209957:=0
def tw1906670228903054779:=0
def tw4882519957346385211:=0
def tw18028780042663010545:=0
def tw6092373086651101062:=0
def tw12970861932779496620:=0
def tw8567356477131574974:=0
def tw5947592660613452534:=0
def tw16127003127680489954:=0
def tw17577462550736908794:=0
def tw1368715379691973318:=0
def tw18068425816111829999:=0
def tw17560435659879871622:=0
def tw6545831781031160065:=0
def tw3172115557441795291:=0
def tw17254003706397963028:=0
def tw17570605550947010377:=0
def tw4686506245895314082:=0
def tw14705916793364492669:=0
def tw6648370643785060825:=0
def tw11257036043958944703:=0
def tw11142359016264176124:=0
def tw1800152476842012332:=0
def tw11249445032465511966:=0
def tw874696572132106642:=0
def tw1591340066428417135:=0
def tw14094887537115519040:=0
def tw13255841968642804733:=0
def tw2829622445017282198:=0
def tw10064002217927703159:=0
def tw1967072706305135747:=0
def tw6708535138362172694:=0
def tw10484264929349394215:=0
def tw1911766806601966361:=0
def tw12589158206736062004:=0
def tw16119608838477482063:=0
def tw15068346083303484364:=0
def tw9155568935446916709:=0
def tw17238192151042314906:=0
def tw17716399364342517051:=0
def tw11061593614920970277:=0
def tw8489509493274961681:=0
def tw3559096276058543270:=0
def tw16552448263601124991:=0
def tw10657101112369365851:=0
def tw4356727993362577046:=0
def tw13566930772947696330:=0
def tw8756186860061580243:=0
def tw3116766290301070426:=0
def tw3846332026503150687:=0
def tw5120279397805002188:=0
def tw11043132520584501371:=0
def tw13555593244093888988:=0
def tw9327261077768356890:=0
def tw3339592901279843375:=0
def tw10753127917816552441:=0
def tw12832986039637082154:=0
def tw9454821088717112661:=0
def tw393994532513952889:=0
def tw18266681209660223736:=0
def tw16459526317755652056:=0
def tw15187345490450771768:=0
end PySem.W.Fast
set_option maxRecDepth 100000 in
set_option maxHeartbeats 0 in
theorem PySem.Challenge.cw_plainglass_k53_merged_holds : PySem.Challenge.rw_plainglass_k53_merged.Holds := by
 w_on;o_law;k_head;(case hw=>w_witness2)
 k_fill
 refine L2.plainglass_k53_merged.walk (l:=PySem.Challenge.rw_plainglass_k53_merged) rfl rfl (fun w h Y=>PySem.W.kIn_of Y) ?F
 case F=>
  intro w mg fa h KX G hmg
  refine' L2.plainglass_k53_merged.all_mk KX G hmg (L2.E.dZ ?a0 ?l0 ?c0 ?k0) (L2.E.dZ ?a1 ?l1 ?c1 ?k1) (L2.E.dZ ?a2 ?l2 ?c2 ?k2) (L2.E.dZ ?a3 ?l3 ?c3 ?k3) (L2.E.dZ ?a4 ?l4 ?c4 ?k4) (L2.E.dZ ?a5 ?l5 ?c5 ?k5) (L2.E.dZ ?a6 ?l6 ?c6 ?k6) (L2.E.dZ ?a7 ?l7 ?c7 ?k7) (L2.E.dZ ?a8 ?l8 ?c8 ?k8) (L2.E.dZ ?a9 ?l9 ?c9 ?k9) (L2.E.dZ ?a10 ?l10 ?c10 ?k10) (L2.E.dZ ?a11 ?l11 ?c11 ?k11) (L2.E.dZ ?a12 ?l12 ?c12 ?k12) (L2.E.dZ ?a13 ?l13 ?c13 ?k13) (L2.E.dZ ?a14 ?l14 ?c14 ?k14) (L2.E.dZ ?a15 ?l15 ?c15 ?k15) (L2.E.dZ ?a16 ?l16 ?c16 ?k16) (L2.E.dZ ?a17 ?l17 ?c17 ?k17) (L2.E.dZ ?a18 ?l18 ?c18 ?k18) (L2.E.dZ ?a19 ?l19 ?c19 ?k19) (L2.E.dZ ?a20 ?l20 ?c20 ?k20) (L2.E.dZ ?a21 ?l21 ?c21 ?k21) (L2.E.dZ ?a22 ?l22 ?c22 ?k22) (L2.E.dZ ?a23 ?l23 ?c23 ?k23) (L2.E.dZ ?a24 ?l24 ?c24 ?k24) (L2.E.dZ ?a25 ?l25 ?c25 ?k25) (L2.E.dZ ?a26 ?l26 ?c26 ?k26) (L2.E.dZ ?a27 ?l27 ?c27 ?k27) (L2.E.dZ ?a28 ?l28 ?c28 ?k28) ?a29 ?l29 ?c29 ?k29 ?z0 ?z1 ?z2 ?z3 ?z4 ?z5 ?z6 ?z7
  (case a0|l0|c0|k0|a1|l1|c1|k1|a2|l2|c2|k2|a3|l3|c3|k3|a4|l4|c4|k4|a5|l5|c5|k5|a6|l6|c6|k6|a7|l7|c7|k7|a8|l8|c8|k8|a9|l9|c9|k9|a10|l10|c10|k10|a11|l11|c11|k11|a12|l12|c12|k12|a13|l13|c13|k13|a14|l14|c14|k14|a15|l15|c15|k15|a16|l16|c16|k16|a17|l17|c17|k17|a18|l18|c18|k18|a19|l19|c19|k19|a20|l20|c20|k20|a21|l21|c21|k21|a22|l22|c22|k22|a23|l23|c23|k23|a24|l24|c24|k24|a25|l25|c25|k25|a26|l26|c26|k26|a27|l27|c27|k27|a28|l28|c28|k28|a29|l29|c29|k29|z0|z1|z2|z3|z4|z5|z6|z7=>k_is)
