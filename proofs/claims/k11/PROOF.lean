import PyProof.Rows.All
import Wide.All
import OpenK.AllK
import Wide.FinOn
import Lean
import PyProof.EqAt
import PyProof.EqKinds
import PyProof.TupleCall
import PySem.Challenge.RW_plainglass_k11_nodes_told
set_option Elab.async false
set_option linter.all false
set_option compiler.extract_closed false
set_option maxRecDepth 100000
namespace L2
open PySem PySem.Spec PyProof.Rows
abbrev Key:=Sum Int Str
def xC:Key->Value->Bool
 |.inl k,v=>Value.isInt k v
 |.inr x,v=>Value.isStrOf x v
def N7(w:World):Key->Int
 |.inl k=>hashInt k
 |.inr x=>hashStr w x
theorem fq:∀{k:Key} {v:Value},xC k v=true->(∃ i t,k=Sum.inl i /\ v=Value.int i t) \/ (∃ x t,k=Sum.inr x /\ v=Value.str x t)
 | .inl i,v,h=>by
   obtain⟨t,e⟩:=Value.isInt_shape (k:=i) (v:=v) h;exact .inl ⟨i,t,rfl,e⟩
 | .inr x,v,h=>by
   obtain⟨t,e⟩:=Value.isStrOf_shape (x:=x) (v:=v) h;exact .inr ⟨x,t,rfl,e⟩
theorem Dq(i:Int)(t:Tok):xC (.inl i) (.int i t)=true:=by simp[xC,Value.isInt]
theorem Dn(x:Str)(t:Tok):xC (.inr x) (.str x t)=true:=by simp[xC,Value.isStrOf]
theorem Li(a b:Int):decide ((Sum.inl a:Key)=Sum.inl b)=(a==b):=by
 by_cases e:a=b
 . subst e;simp
 . have h:¬ (Sum.inl a:Key)=Sum.inl b:=fun q=>e (Sum.inl.inj q)
   rw[decide_eq_false h]
   exact(beq_eq_false_iff_ne.mpr e).symm
theorem Lq(a b:Str):decide ((Sum.inr a:Key)=Sum.inr b)=decide (a=b):=by
 by_cases e:a=b
 . subst e;simp
 . have h:¬ (Sum.inr a:Key)=Sum.inr b:=fun q=>e (Sum.inr.inj q)
   rw[decide_eq_false h,decide_eq_false e]
theorem Lg(a:Int)(b:Str):decide ((Sum.inl a:Key)=Sum.inr b)=false:=decide_eq_false (fun q=>nomatch q)
theorem Ko(a:Str)(b:Int):decide ((Sum.inr a:Key)=Sum.inl b)=false:=decide_eq_false (fun q=>nomatch q)
def gf(prog:Program)(w:World):PySem.KeyKind prog w Key where
 is:=xC
 hash:=N7 w
 inj:=fun v a b ha hb=>by
  rcases fq ha with⟨i,t,rfl,rfl⟩|⟨x,t,rfl,rfl⟩
  . rcases fq hb with⟨j,u,rfl,e⟩|⟨y,u,rfl,e⟩
    . injection e with e1 _;rw[e1]
    . exact nomatch e
  . rcases fq hb with⟨j,u,rfl,e⟩|⟨y,u,rfl,e⟩
    . exact nomatch e
    . injection e with e1 _;rw[e1]
 byValue:=fun k v h=>by
  rcases fq h with⟨i,t,rfl,rfl⟩|⟨x,t,rfl,rfl⟩<;>rfl
 pyHash:=fun hv h=>by
  rcases fq hv with⟨i,t,rfl,rfl⟩|⟨x,t,rfl,rfl⟩
  . exact wpAny_pyHash_int h
  . exact wpAny_pyHash_str h
 eqBool:=fun hu hv h=>by
  rcases fq hu with⟨i,t,rfl,rfl⟩|⟨x,t,rfl,rfl⟩
  . rcases fq hv with⟨j,u,rfl,rfl⟩|⟨y,u,rfl,rfl⟩
    . rw[Li]at h;exact wpAny_eqBool_int h
    . rw[Lg]at h;exact SeqAt.EqAt.int_str i t y u _ _ _ _ h
  . rcases fq hv with⟨j,u,rfl,rfl⟩|⟨y,u,rfl,rfl⟩
    . rw[Ko]at h;exact SeqAt.EqAt.str_int x t j u _ _ _ _ h
    . rw[Lq]at h;exact wpAny_eqBool_str h
 «strs»:=fun k x t v h=>by
  rcases fq h with⟨i,u,rfl,e⟩|⟨y,u,rfl,e⟩
  . exact nomatch e
  . injection e with e1 _
    subst e1
    cases v<;>rfl
theorem zD(prog:Program)(w:World)(i:Int)(t:Tok):(gf prog w).is (.inl i) (.int i t)=true:=Dq i t
theorem A7(prog:Program)(w:World)(x:Str)(t:Tok):(gf prog w).is (.inr x) (.str x t)=true:=Dn x t
inductive V where
 |non|bl (b:Bool)|int (i:Int)|str (x:Str)|byt (b:Array UInt8)|flt (b:UInt64)|ref (a:Addr)|ty (n:String)
 deriving DecidableEq
def RelV:V->Value->Prop
 |.non,u=>u=Value.none
 |.bl b,u=>u=Value.bool b
 |.int i,u=>∃ t,u=Value.int i t
 |.str x,u=>∃ t,u=Value.str x t
 |.byt b,u=>∃ t,u=Value.bytes b t
 |.flt b,u=>∃ t,u=Value.float b t
 |.ref a,u=>u=Value.ref a
 |.ty n,u=>u=Value.type n
abbrev Vals:List V->List Value->Prop:=Paired RelV
theorem Vals.length{xs:List V}{us:List Value}(r:Vals xs us):xs.length=us.length:=Paired.length r
theorem Vals.get:∀{xs:List V} {us:List Value} {i:Nat} {x:V},Vals xs us->xs[i]?=some x->∃ u,us[i]?=some u /\ RelV x u
 |_,_,_,_,.nil,e=>by simp at e
 |_,_,0,_,.cons r _,e=>by simp at e;subst e;exact⟨_,rfl,r⟩
 | _,_,i+1,x,.cons _ t,e=>by
   obtain⟨u,h1,h2⟩:=Vals.get (i:=i) (x:=x) t (by simpa using e)
   exact⟨u,by simpa using h1,h2⟩
theorem Vals.set(r:RelV x u):∀{xs:List V} {us:List Value} (i:Nat),Vals xs us->Vals (xs.set i x) (us.set i u)
 |_,_,_,.nil=>.nil
 |_,_,0,.cons _ t=>.cons r t
 |_,_,i+1,.cons q t=>.cons q (Vals.set r i t)
theorem Vals.append:∀{xs ys:List V} {us ws:List Value},Vals xs us->Vals ys ws->Vals (xs++ys) (us++ws)
 |_,_,_,_,.nil,s=>s
 |_,_,_,_,.cons r t,s=>.cons r (Vals.append t s)
theorem Vals.take:∀{xs:List V} {us:List Value} (n:Nat),Vals xs us->Vals (xs.take n) (us.take n)
 |_,_,0,_=>.nil
 |_,_,_+1,.nil=>.nil
 |_,_,n+1,.cons r t=>.cons r (Vals.take n t)
theorem Vals.drop:∀{xs:List V} {us:List Value} (n:Nat),Vals xs us->Vals (xs.drop n) (us.drop n)
 |_,_,0,r=>r
 |_,_,_+1,.nil=>.nil
 |_,_,n+1,.cons _ t=>Vals.drop n t
def bz:Option V->Option Value->Prop
 |some v,some u=>RelV v u
 |none,none=>True
 |_,_=>False
def KV{κ:Type}:List (κ×V)->List (κ×Value)->Prop:=Paired fun (p:κ×V) (q:κ×Value)=>p.1=q.1 /\ RelV p.2 q.2
def kV:Key->V
 |.inl i=>.int i
 |.inr x=>.str x
inductive HO where
  |lst (xs:List V)
  |tup (xs:List V)
  |dK (kvs:List (Key×V))|dT (kvs:List (List Key×V))
  |set (S:Int->Bool) (n:Nat)
  |ins (C dx:Addr) (fs:List (Str×V))
  |own (x:Addr)
  |xd (fs:List (Str×V))
  |met (f x:Addr)
  |rng (lo hi:Int)
  |frz (o:Obj) (u:HO)
  |tbl (ps:Array Value)
  |ext (φ:Heap->Prop)
abbrev Hp:=Addr->Option HO
def upd(H:Hp)(a:Addr)(o:HO):Hp:=fun b=>if b=a then some o else H b
theorem bL:upd H a o a=some o:=by unfold upd;rw[if_pos rfl]
theorem bP(h:b≠a):upd H a o b=H b:=by unfold upd;rw[if_neg h]
theorem Hk:upd (upd H a o) a u=upd H a u:=by
 funext b;unfold upd;split<;>rfl
theorem eU{H:Hp}{a b:Addr}{o:HO}(h:H a=some o)(h':H b=none):a≠b:=by
 intro e;subst e;rw[h]at h';cases h'
section
variable(P:Program)(w:World)
def gD(H:Hp)(h:Heap)(a:Addr):HO->Prop
 |.lst xs=>xs.length<=sizeLine /\ ∃(its:List Value) (n:Nat),Vals xs its /\ h.get? a=some { cls:=.type "list",data:=.seq its.toArray n }
 |.tup xs=>xs.length<=sizeLine /\ ∃ its:List Value,Vals xs its /\ IsTup h a its.toArray
 |.dK kvs=>kvs.length<=sizeLine /\ (a==sysModules)=false /\ ∃ vs,KV kvs vs /\ h.DictOf (gf P w) a vs
 | .dT kvs=>kvs.length <= sizeLine /\ (a == sysModules) = false /\ ∃ xs:List (List Key × Addr × Value),
    Paired (fun (p:List Key×V) (q:List Key×Addr×Value)=>p.1=q.1 /\ H q.2.1=some (.tup (p.1.map kV)) /\ RelV p.2 q.2.2) kvs xs /\
    ∃ o es ep,h.get? a=some o /\ o.ExactDict /\ o.data=.dict es ep /\ es.toList=xs.map (entryOfKey (tupleKind (gf P w))) /\ (xs.map (·.1)).Nodup
 |.set S n=>h.SetOf (intKind P w) a S n
 | .ins C dx fs=>H dx = some (.own a) /\ fs.length <= 1000 /\ dx ≠ a /\ h.get? a = some (PySem.W.instObj C dx) /\
    ∃ mA,h.Ns1 dx mA /\ (∀ f,bz (fs.lookup f) (mA f)) /\ PySem.Within mA (fs.map (·.1))
 |.own _=>∃ o,h.get? a=some o
 |.xd fs=>∃ mA,h.Ns1 a mA /\ ∀ f,bz (fs.lookup f) (mA f)
 |.rng lo hi=>∃ t u v,h.get? a=some { cls:=.type "range",data:=.fields #[.int lo t,.int hi u,.int 1 v] }
 |.frz o u=>h.get? a=some o /\ gD H h a u
 |.tbl ps=>h.get? a=some { cls:=.none,data:=.fields ps }
 |.met f x=>h.get? a=some (PySem.W.methodObj (.ref f) (.ref x))
 |.ext φ=>φ h /\ (∃ o,h.get? a=some o) /\ ∀ h1 h2:Heap,φ h1->(∀ o,h1.get? a=some o->h2.get? a=some o)->φ h2
def HOk(H:Hp)(h:Heap):Prop:=∀ a o,H a=some o->gD P w H h a o
end
section
variable{P:Program}{w:World}{H H':Hp}{h h':Heap}{a:Addr}{o:HO}
theorem gD.lt(x:gD P w H h a o):a<h.objs.size:=by
 cases o with
 |lst xs=>obtain⟨_,_,_,_,e⟩:=x;exact Heap.lt_size e
 |tup xs=>obtain⟨_,_,_,p⟩:=x;exact p.lt
 |dK kvs=>obtain⟨_,_,_,_,o,_,_,e,_⟩:=x;exact Heap.lt_size e
 |dT kvs=>obtain⟨_,_,_,_,o,_,_,e,_⟩:=x;exact Heap.lt_size e
 |set S n=>obtain⟨o,_,_,_,e,_⟩:=x;exact Heap.lt_size e
 |ins C dx fs=>obtain⟨_,_,_,e,_⟩:=x;exact Heap.lt_size e
 |own y=>obtain⟨_,e⟩:=x;exact Heap.lt_size e
 |xd fs=>obtain⟨_,⟨_,_,_,e,_⟩,_⟩:=x;exact Heap.lt_size e
 |rng lo hi=>obtain⟨_,_,_,e⟩:=x;exact Heap.lt_size e
 |frz ob u=>obtain⟨e,_⟩:=x;exact Heap.lt_size e
 |tbl ps=>exact Heap.lt_size (show h.get? a=some _ from x)
 |met f y=>exact Heap.lt_size (show h.get? a=some _ from x)
 |ext φ=>obtain⟨_,⟨_,e⟩,_⟩:=x;exact Heap.lt_size e
theorem Paired.K8{α β:Type}{F G:α->β->Prop}:∀{l₁:List α} {l₂:List β},Paired F l₁ l₂->(∀ a b,F a b->G a b)->Paired G l₁ l₂
 |_,_,.nil,_=>.nil
 |_,_,.cons r t,f=>.cons (f _ _ r) (Paired.K8 t f)
theorem gD.vk(x:gD P w H h a o)(k:∀ b u,(b=a \/ H b=some (.own a))->h.get? b=some u->h'.get? b=some u)
  (ho:∀ b,H b=some (.own a)->H' b=some (.own a)) (ht:∀ b xs,H b=some (.tup xs)->H' b=some (.tup xs)):gD P w H' h' a o:=by
 induction o with
 |lst xs=>obtain⟨z,its,n,r,e⟩:=x;exact⟨z,its,n,r,k _ _ (.inl rfl) e⟩
 |tup xs=>obtain⟨z,its,r,ob,e,c⟩:=x;exact⟨z,its,r,ob,k _ _ (.inl rfl) e,c⟩
 |dK kvs=>obtain⟨z,y,vs,r,ob,es,ep,e,c⟩:=x;exact⟨z,y,vs,r,ob,es,ep,k _ _ (.inl rfl) e,c⟩
 | dT kvs=>
   obtain⟨z,y,xs,r,ob,es,ep,e,c⟩:=x
   exact⟨z,y,xs,Paired.K8 r fun p q z=>⟨z.1,ht _ _ z.2.1,z.2.2⟩,ob,es,ep,k _ _ (.inl rfl) e,c⟩
 |set S n=>obtain⟨ob,es,ep,t,e,c⟩:=x;exact⟨ob,es,ep,t,k _ _ (.inl rfl) e,c⟩
 | ins C dx fs=>
   obtain⟨d,z,ne,e,mA,⟨od,es,ep,e2,c⟩,r⟩:=x
   exact⟨ho _ d,z,ne,k _ _ (.inl rfl) e,mA,⟨od,es,ep,k _ _ (.inr d) e2,c⟩,r⟩
 |own y=>obtain⟨ob,e⟩:=x;exact⟨ob,k _ _ (.inl rfl) e⟩
 |xd fs=>obtain⟨mA,⟨od,es,ep,e,c⟩,r⟩:=x;exact⟨mA,⟨od,es,ep,k _ _ (.inl rfl) e,c⟩,r⟩
 |rng lo hi=>obtain⟨t,u,v,e⟩:=x;exact⟨t,u,v,k _ _ (.inl rfl) e⟩
 |frz ob u ih=>obtain⟨e,q⟩:=x;exact⟨k _ _ (.inl rfl) e,ih q⟩
 | tbl ps=>
   have e:h.get? a=some { cls:=.none,data:=.fields ps }:=x
   show h'.get? a=some { cls:=.none,data:=.fields ps };exact k a _ (.inl rfl) e
 | met f y=>
   have e:h.get? a=some (PySem.W.methodObj (.ref f) (.ref y)):=x
   show h'.get? a=some (PySem.W.methodObj (.ref f) (.ref y));exact k a _ (.inl rfl) e
 |ext φ=>obtain⟨p,⟨o,e⟩,st⟩:=x;exact⟨st _ _ p fun o q=>k _ _ (.inl rfl) q,⟨o,k _ _ (.inl rfl) e⟩,st⟩
theorem HOk.lt(x:HOk P w H h)(e:H a=some o):a<h.objs.size:=(x a o e).lt
theorem HOk.fresh(x:HOk P w H h)(e:h.objs.size<=a):H a=none:=by
 cases q:H a with
 |none=>rfl
 |some u=>exact absurd (Nat.lt_of_lt_of_le (x.lt q) e) (Nat.lt_irrefl _)
theorem HOk.kept(x:HOk P w H h)(k:∀ b u,h.get? b=some u->h'.get? b=some u):HOk P w H h':=fun a o e=>
 (x a o e).vk (fun b u _ q=>k b u q) (fun _ q=>q) fun _ _ q=>q
theorem HOk.laid(x:HOk P w H h)(k:∀ b u,h.get? b=some u->h'.get? b=some u)(hp:h.objs.size<=a)(new:gD P w (upd H a o) h' a o):HOk P w (upd H a o) h':=fun b u e=>by
 have hn:=x.fresh hp
 by_cases hb:b=a
 . subst hb;rw[bL]at e;cases e;exact new
 . rw[bP hb]at e
   exact(x b u e).vk (fun c v _ q=>k c v q) (fun c q=>by rw[bP (eU q hn)];exact q) fun c xs q=>by rw[bP (eU q hn)];exact q
end
def Rd(H:Hp)(a:Addr)(u:HO):Prop:=H a=some u \/ ∃ o,H a=some (.frz o u)
theorem Rd.ok(r:Rd H a u)(x:HOk P w H h):gD P w H h a u:=by
 rcases r with r|⟨o,r⟩
 . exact x a u r
 . obtain⟨_,q⟩:=x a _ r;exact q
def Mut:Option HO->Prop
 |some (.lst _)=>True
 |some (.dK _)=>True
 |some (.dT _)=>True
 |some (.set _ _)=>True
 |some (.ins _ _ _)=>True
 |some (.ext _)=>True
 |_=>False
section
variable{P:Program}{w:World}{H:Hp}{h h':Heap}{x e:Addr}{o':HO}
theorem HOk.write(ok:HOk P w H h)(mu:Mut (H x))(he:e=x \/ H e=some (.own x))(k:∀ b u,b≠e->h.get? b=some u->h'.get? b=some u)(heo:∃ u,h'.get? e=some u)
  (new:gD P w (upd H x o') h' x o'):HOk P w (upd H x o') h':=fun b u q=>by
 have nown:∀ c y,H c=some (.own y)->c≠x:=fun c y r z=>by subst z;rw[r]at mu;exact mu
 have ntup:∀ c xs,H c=some (.tup xs)->c≠x:=fun c xs r z=>by subst z;rw[r]at mu;exact mu
 by_cases hb:b=x
 . subst hb;rw[bL]at q;cases q;exact new
 . rw[bP hb]at q
   by_cases hbe:b=e
   . have q':H b = some (.own x):=by
      rcases he with z|z
      . exact absurd (hbe.trans z) hb
      . rw[hbe];exact z
     rw[q]at q';cases q';obtain⟨v,hv⟩:=heo
     exact⟨v,by rw[hbe];exact hv⟩
   . refine(ok b u q).vk (fun c v hc r=>k c v ?_ r) (fun c r=>by rw[bP (nown c b r)];exact r) fun c xs r=>by rw[bP (ntup c xs r)];exact r
     rcases hc with rfl|hc
     . exact hbe
     . rintro rfl
       rcases he with z|z
       . exact nown c b hc z
       . rw[hc]at z;cases z;exact hb rfl
end
structure Un(fs ex:List Addr)(H H':Hp)(h h':Heap):Prop where
 keep:∀ b o,h.get? b=some o->H b=none->b∉fs->b∉ex->h'.get? b=some o
 slot:∀ b o,h.get? b=some o->H b=none->b∈fs->b∉ex->∃ sl,h'.get? b=some { o with slots:=sl }
 free:∀ b o,h.get? b=some o->H b=none->b∉ex->H' b=none
 there:∀ b o,h.get? b=some o->b∉ex->∃ o',h'.get? b=some o'
 tups:∀ b xs,H b=some (.tup xs)->H' b=some (.tup xs)
 frzs:∀ b o u,H b=some (.frz o u)->H' b=some (.frz o u)
 tbls:∀ b ps,H b=some (.tbl ps)->∃ more,H' b=some (.tbl (ps++more))
section
variable{fs fs' ex ex':List Addr}{H H1 H2:Hp}{h h1 h2 h':Heap}{a x e:Addr}{o:HO}
theorem Un.any(u:Un fs ex H H1 h h1)(q:h.get? b=some ob)(n:H b=none)(hx:b∉ex):∃ sl,h1.get? b=some { ob with slots:=sl }:=by
 by_cases hb:b∈fs
 . exact u.slot b ob q n hb hx
 . exact⟨ob.slots,u.keep b ob q n hb hx⟩
theorem Un.kept(k:∀ b u,h.get? b=some u->h'.get? b=some u):Un fs ex H H h h':=
 ⟨fun b ob q _ _ _=>k b ob q,fun b ob q _ _ _=>⟨ob.slots,k b ob q⟩,fun _ _ _ n _=>n,fun b ob q _=>⟨ob,k b ob q⟩,fun _ _ q=>q,fun _ _ _ q=>q,fun _ ps q=>⟨#[],by rw[q];simp⟩⟩
theorem Un.refl:Un fs ex H H h h:=Un.kept fun _ _ q=>q
theorem Un.laid(k:∀ b u,h.get? b=some u->h'.get? b=some u)(hp:h.objs.size<=a)(hn:H a=none):Un fs ex H (upd H a o) h h' where
 keep:=fun b u q _ _ _=>k b u q
 slot:=fun b u q _ _ _=>⟨u.slots,k b u q⟩
 free:=fun b u q n _=>by rw[bP (Nat.ne_of_lt (Nat.lt_of_lt_of_le (Heap.lt_size q) hp))];exact n
 there:=fun b u q _=>⟨u,k b u q⟩
 tups:=fun b xs q=>by rw[bP (eU q hn)];exact q
 frzs:=fun b u xs q=>by rw[bP (eU q hn)];exact q
 tbls:=fun b ps q=>⟨#[],by rw[bP (eU q hn),q];simp⟩
theorem Un.write(mu:Mut (H x))(he:e=x \/ H e=some (.own x))(k:∀ b u,b≠e->h.get? b=some u->h'.get? b=some u)(heo:∃ u,h'.get? e=some u):Un fs ex H (upd H x o) h h':=by
 have hx:∀ b,H b=none->b≠x:=fun b n z=>by subst z;rw[n]at mu;exact mu
 have hb:∀ b,H b=none->b≠e:=fun b n z=>by
  subst z
  rcases he with r|r
  . exact hx b n r
  . rw[n]at r;cases r
 have hm:∀ b u,H b=some u->¬ Mut (some u)->b≠x:=fun b u q nm z=>by subst z;rw[q]at mu;exact nm mu
 refine⟨fun b u q n _ _=>k b u (hb b n) q,fun b u q n _ _=>⟨u.slots,k b u (hb b n) q⟩,fun b u q n _=>by rw[bP (hx b n)];exact n,fun b u q _=>?_,
  fun b xs q=>by rw[bP (hm b _ q fun z=>z)];exact q,fun b u xs q=>by rw[bP (hm b _ q fun z=>z)];exact q,fun b ps q=>⟨#[],by rw[bP (hm b _ q fun z=>z),q];simp⟩⟩
 by_cases hbe:b=e
 . subst hbe;exact heo
 . exact⟨u,k b u hbe q⟩
end
def trk(h:Heap)(H:Hp):List Addr:=(List.range h.objs.size).filter fun a=>(H a).isSome
def ze(h:Heap)(H:Hp):Heap:=PySem.W.hideAll h (trk h H)
theorem DA(h:Heap)(H:Hp):(ze h H).objs.size=h.objs.size:=PySem.W.hideAll_size _ _
theorem Fe{h:Heap}(e:h.get? b=some o)(n:H b=none):(ze h H).get? b=some o:=
 PySem.W.hideAll_get _ e fun hm=>by
  have q:(H b).isSome=true:=(List.mem_filter.mp hm).2
  rw[n]at q;simp at q
theorem Ia{h:Heap}(e:(ze h H).get? b=some o):h.get? b=some o /\ H b=none:=by
 have e':h.get? b=some o:=PySem.W.of_hideAll (trk h H) e
 refine⟨e',?_⟩
 cases q:H b with
 |none=>rfl
 | some x=>
   have hm:b∈trk h H:=List.mem_filter.mpr ⟨List.mem_range.mpr (Heap.lt_size e'),by simp[q]⟩
   have z:(ze h H).get? b=none:=PySem.W.hideAll_none (trk h H) hm
   rw[z]at e;cases e
def Ik(g h:Heap)(L:Addr):List (Addr×Obj):=(List.range h.objs.size).filterMap fun a=>if a=L \/ (g.get? a).isSome=true then none else(h.get? a).map fun o=>(a,o)
def rest(g h:Heap)(L d:Addr):List (Addr×Obj):=(Ik g h L).filter fun p=>decide (p.1≠d)
structure Mod(K:PySem.W.Frag)(mg:Str->Option Value)(base:Heap):Prop where
 kin:K.In base
 glob:base.Ns mainGlobals mg
 blt:∃ mb,base.Ns builtinsNs mb /\ ∀ x:Str,x ≠ "__name__" -> mb x=bootBuiltins x
 nolimit:base.NoLimit
structure Cx where
 prog:Program
 w:World
 K:PySem.W.Frag
 mg:Str->Option Value
 base:Heap
 A:Around
 N:List Str
 s₀:Shared
 H₀:Hp
 env:Env
 outer:List Env
 stack:List Env
 ex:List Addr
 fn:Str->Bool
 calm:Bool
 pn:List (Addr×Obj)
 xe:Value->Shared->Prop
def frs(l:List Env):List Addr:=l.filterMap (·.frame)
abbrev Cx.fs(X:Cx):List Addr:=frs X.outer
def Vis(sc:Scope)(x:Str):Prop:=sc.names.lookup x=some .local \/ sc.names.lookup x=some .cell \/ sc.names.lookup x=some .free
def Loc(sc:Scope)(x:Str):Prop:=sc.names.lookup x=some .local \/ sc.names.lookup x=some .cell
def Look(env:Env)(h:Heap)(m:Str->Option Value)(x:Str)(u:Value):Prop:=
 (env.kindOf x=some .local /\ m x=some u) \/ ((env.kindOf x=some .cell \/ env.kindOf x=some .free) /\ ∃ c,env.cells.lookup x=some c /\ h.IsCell c (some u))
structure Cx.Ok(X:Cx):Prop where
 mod:Mod X.K X.mg X.base
 kind:X.env.scope.kind=.function
 glob:X.env.globals=mainGlobals
 blt:X.env.builtins=builtinsNs
 above:X.s₀.heap.objs.size<=X.env.locals
 inj:∀ x y c,X.env.cells.lookup x=some c->X.env.cells.lookup y=some c->x=y
 has:∀ x,(X.env.kindOf x=some .cell \/ X.env.kindOf x=some .free)->∃ c,X.env.cells.lookup x=some c
 cab:∀ x c,X.fn x=true->X.env.cells.lookup x=some c->X.s₀.heap.objs.size<=c
 hd:X.calm=true->X.A.handled=none
 frames:X.A.frames=some X.stack
 stk:X.stack=X.outer \/ (X.stack=X.env ::X.outer /\ X.env.frame=some X.env.locals)
 exf:∀ b∈X.ex,b≠X.env.locals /\ ∀ x c,X.env.cells.lookup x=some c->c≠b
 bs:∀ b o,X.base.get? b=some o->X.s₀.heap.get? b=some o /\ X.H₀ b=none
 bsz:X.base.objs.size<=X.s₀.heap.objs.size
 noex:∀ b o,X.base.get? b=some o->b∉X.ex
 exfs:∀ b∈X.ex,b∉X.fs
 xt:X.s₀.heap.FunFrames X.base X.outer
 frf:∀ b∈X.fs,X.H₀ b=none
structure Inv(X:Cx)(pins:List (Addr×Obj))(σ:List (Option V))(H:Hp)(s:Shared):Prop where
 ok:X.Ok
 os:s.os=X.s₀.os
 bare:AllBare s.gens
 base:Un X.fs X.ex X.H₀ H X.s₀.heap s.heap
 loc:∃ m,s.heap.Ns X.env.locals m /\ ∀(i:Nat) (x:Str) (v:V),X.N[i]?=some x->σ[i]?=some (some v)->Vis X.env.scope x->∃ u,RelV v u /\ Look X.env s.heap m x u
 cell:∀ x c,X.env.cells.lookup x=some c->∃ v,s.heap.IsCell c v
 free:H X.env.locals=none
 freeC:∀ x c,X.env.cells.lookup x=some c->H c=none
 pin:∀ p∈X.pn++pins,s.heap.get? p.1=some p.2 /\ H p.1=none /\ p.1≠X.env.locals /\ p.1∉X.fs /\ ∀ v,p.2.data≠.cell v
 hok:HOk X.prog X.w H s.heap
 len:σ.length=X.N.length
section
variable{X:Cx}{pins:List (Addr×Obj)}{σ:List (Option V)}{H H':Hp}{s:Shared}{h':Heap}
theorem Cx.Ok.Og(ok:X.Ok)(e:X.base.get? b=some o):b∉X.fs:=fun hb=>by
 have:=(ok.xt.mem hb).1;rw[e]at this;cases this
theorem Inv.bs(I:Inv X pins σ H s):∀ b o,X.base.get? b=some o->s.heap.get? b=some o /\ H b=none:=fun b o e=>
 ⟨I.base.keep b o (I.ok.bs b o e).1 (I.ok.bs b o e).2 (I.ok.Og e) (I.ok.noex b o e),I.base.free b o (I.ok.bs b o e).1 (I.ok.bs b o e).2 (I.ok.noex b o e)⟩
theorem Inv.bk(I:Inv X pins σ H s):∀ b o,X.base.get? b=some o->s.heap.get? b=some o:=fun b o e=>(I.bs b o e).1
theorem Inv.mod(I:Inv X pins σ H s):Mod X.K X.mg X.base:=I.ok.mod
theorem Inv.kIn(I:Inv X pins σ H s):X.K.In s.heap:=I.ok.mod.kin.keeps I.bk
theorem Inv.nolimit(I:Inv X pins σ H s):s.heap.NoLimit:=I.ok.mod.nolimit.keeps I.bk
theorem Inv.lt(I:Inv X pins σ H s):X.env.locals<s.heap.objs.size:=let ⟨_,hn,_⟩:=I.loc;hn.lt
theorem Inv.sz(I:Inv X pins σ H s):X.s₀.heap.objs.size<=s.heap.objs.size:=Nat.le_trans I.ok.above (Nat.le_of_lt I.lt)
theorem Inv.Oa(I:Inv X pins σ H s)(h:s.heap.objs.size<=a):a∉X.fs:=fun hb=>by
 obtain⟨_,o,ho,_⟩:=I.ok.xt.mem hb;exact absurd (Nat.lt_of_lt_of_le (Heap.lt_size ho) (Nat.le_trans I.sz h)) (Nat.lt_irrefl _)
theorem Inv.cne(I:Inv X pins σ H s):∀ x c,X.env.cells.lookup x=some c->c≠X.env.locals:=fun x c e z=>by
 obtain⟨v,o,ho,hd⟩:=I.cell x c e;obtain⟨m,⟨o',es,ep,ho',hd',_⟩,_⟩:=I.loc;rw[z,ho']at ho;cases ho;rw[hd']at hd;cases hd
theorem Inv.xt(I:Inv X pins σ H s):s.heap.FunFrames X.base X.outer:=by
 have all:∀(l:List Env),(∀ b∈frs l,b∈X.fs)->X.s₀.heap.FunFrames X.base l->s.heap.FunFrames X.base l:=by
  intro l
  induction l with
  |nil=>intro _ _;trivial
  | cons env r ih=>
    intro hs hl;obtain⟨hk,⟨L,o,hf,hn,ho,hd⟩,hr⟩:=hl
    have hL:L∈X.fs:=hs L (by unfold frs;rw[List.filterMap_cons,hf];exact List.mem_cons_self)
    obtain⟨sl,e⟩:=I.base.slot L o ho (I.ok.frf L hL) hL fun z=>I.ok.exfs L z hL
    exact⟨hk,⟨L,_,hf,hn,e,hd⟩,ih (fun b hb=>hs b (by unfold frs;rw[List.filterMap_cons,hf];exact List.mem_cons_of_mem _ hb)) hr⟩
 exact all X.outer (fun _ hb=>hb) I.ok.xt
theorem Inv.stack(I:Inv X pins σ H s):s.heap.FunFrames X.base X.stack:=by
 rcases I.ok.stk with e|⟨e,hf⟩
 . rw[e];exact I.xt
 . rw[e];obtain⟨m,hn,_⟩:=I.loc;refine .cons (by rw[I.ok.kind];decide) hf hn ?_ I.xt;exact Heap.get?_none_of_le (Nat.le_trans I.ok.bsz I.ok.above)
theorem Inv.Bp(I:Inv X pins σ H s):∀ b∈frs X.stack,b∈X.env.locals ::X.fs:=fun b hb=>by
 rcases I.ok.stk with e|⟨e,hf⟩
 . rw[e]at hb;exact List.mem_cons_of_mem _ hb
 . rw[e]at hb;unfold frs at hb;rw[List.filterMap_cons,hf]at hb;exact hb
theorem Inv.zk(I:Inv X pins σ H s):∀ b∈frs X.stack,H b=none:=fun b hb=>by
 rcases List.mem_cons.mp (I.Bp b hb)with e|hb
 . rw[e];exact I.free
 . obtain⟨_,o,ho,_⟩:=I.ok.xt.mem hb
   exact I.base.free b o ho (I.ok.frf b hb) fun z=>I.ok.exfs b z hb
theorem Inv.step{g':Array GenState}{t':Nat}{d':Drawn}{ch:List Addr}(I:Inv X pins σ H s)
  (hch:∀ b∈ch,(b∈X.ex \/ X.s₀.heap.objs.size<=b) /\ b≠X.env.locals /\ (∀ x c,X.env.cells.lookup x=some c->c≠b) /\ ∀ p∈X.pn++pins,p.1≠b)
  (keep:∀ b o,b≠X.env.locals->b∉X.fs->b∉ch->s.heap.get? b=some o->H b=none->h'.get? b=some o)
  (slot:∀ b o,b≠X.env.locals->b∈X.fs->b∉ch->s.heap.get? b=some o->H b=none->∃ sl,h'.get? b=some { o with slots:=sl }) (free:∀ b o,b∉ch->s.heap.get? b=some o->H b=none->H' b=none)
  (there:∀ b o,b∉ch->s.heap.get? b=some o->∃ o',h'.get? b=some o')
  (tups:∀ b xs,H b=some (.tup xs)->H' b=some (.tup xs)) (frzs:∀ b o u,H b=some (.frz o u)->H' b=some (.frz o u)) (tbls:∀ b ps,H b=some (.tbl ps)->∃ more,H' b=some (.tbl (ps++more)))
  (ns:∀ m,s.heap.Ns X.env.locals m->h'.Ns X.env.locals m) (hok:HOk X.prog X.w H' h') (hg:AllBare g'):
  Inv X pins σ H' { s with heap:=h',gens:=g',drawn:=d',toks:=t' }:=by
 have neL:∀ b o,X.s₀.heap.get? b=some o->b≠X.env.locals:=fun b o e=>Nat.ne_of_lt (Nat.lt_of_lt_of_le (Heap.lt_size e) I.ok.above)
 have neC:∀ b o,X.s₀.heap.get? b=some o->b∉X.ex->b∉ch:=fun b o e hx hb=>by
  rcases(hch b hb).1 with z|z
  . exact hx z
  . exact absurd (Nat.lt_of_lt_of_le (Heap.lt_size e) z) (Nat.lt_irrefl _)
 have cellK:∀ x c,X.env.cells.lookup x=some c->∀ v,s.heap.IsCell c v->h'.IsCell c v:=fun x c e v ⟨o,ho,hd⟩=>by
  have nch:c∉ch:=fun z=>(hch c z).2.2.1 x c e rfl
  by_cases hc:c∈X.fs
  . obtain⟨sl,q⟩:=slot c o (I.cne x c e) hc nch ho (I.freeC x c e)
    exact⟨_,q,hd⟩
  . exact⟨o,keep c o (I.cne x c e) hc nch ho (I.freeC x c e),hd⟩
 refine⟨I.ok,I.os,hg,⟨fun b o e n hb hx=>?_,fun b o e n hb hx=>?_,fun b o e n hx=>?_,fun b o e hx=>?_,fun b xs e=>tups b xs (I.base.tups b xs e),fun b o xs e=>frzs b o xs (I.base.frzs b o xs e),fun b ps e=>?_⟩,?_,fun x c e=>?_,?_,fun x c e=>?_,fun p hp=>?_,hok,I.len⟩
 . exact keep b o (neL b o e) hb (neC b o e hx) (I.base.keep b o e n hb hx) (I.base.free b o e n hx)
 . obtain⟨sl,e1⟩:=I.base.slot b o e n hb hx;obtain⟨sl',e2⟩:=slot b _ (neL b o e) hb (neC b o e hx) e1 (I.base.free b o e n hx)
   exact⟨sl',e2⟩
 . obtain⟨o',e1⟩:=I.base.there b o e hx;exact free b o' (neC b o e hx) e1 (I.base.free b o e n hx)
 . obtain⟨o',e1⟩:=I.base.there b o e hx;exact there b o' (neC b o e hx) e1
 . obtain⟨m1,e1⟩:=I.base.tbls b ps e;obtain⟨m2,e2⟩:=tbls b _ e1
   exact⟨m1++m2,by rw[e2,Array.append_assoc]⟩
 . obtain⟨m,hn,hl⟩:=I.loc
   refine⟨m,ns m hn,fun i x v e1 e2 e3=>?_⟩
   obtain⟨u,r,l⟩:=hl i x v e1 e2 e3
   refine⟨u,r,?_⟩
   rcases l with l|⟨k,c,e,z⟩
   . exact .inl l
   . exact .inr ⟨k,c,e,cellK x c e _ z⟩
 . obtain⟨v,z⟩:=I.cell x c e
   exact⟨v,cellK x c e v z⟩
 . obtain⟨m,⟨o,_,_,ho,_⟩,_⟩:=I.loc;exact free _ o (fun z=>(hch _ z).2.1 rfl) ho I.free
 . obtain⟨v,o,ho,hd⟩:=I.cell x c e;exact free c o (fun z=>(hch c z).2.2.1 x c e rfl) ho (I.freeC x c e)
 . obtain⟨e,n,ne,nf,d⟩:=I.pin p hp
   have nch:p.1∉ch:=fun z=>(hch p.1 z).2.2.2 p hp rfl
   exact⟨keep p.1 p.2 ne nf nch e n,free p.1 p.2 nch e n,ne,nf,d⟩
theorem Inv.un{t':Nat}(I:Inv X pins σ H s)(u:Un X.fs [] H H' s.heap h')(hok:HOk X.prog X.w H' h'):Inv X pins σ H' { s with heap:=h',toks:=t' }:=by
 obtain⟨m,⟨o,es,ep,ho,r⟩,_⟩:=id I.loc;obtain⟨sl,hL⟩:=u.any ho I.free (by simp)
 exact I.step (g':=s.gens) (d':=s.drawn) (ch:=[]) (fun _ z=>nomatch z) (fun b o _ hb _ e n=>u.keep b o e n hb (by simp)) (fun b o _ hb _ e n=>u.slot b o e n hb (by simp)) (fun b o _ e n=>u.free b o e n (by simp)) (fun b o _ e=>u.there b o e (by simp)) u.tups u.frzs u.tbls (fun m' hm=>by
  obtain⟨o',es',ep',ho',r'⟩:=hm;rw[ho]at ho';cases ho'
  exact⟨_,es',ep',hL,r'⟩) hok I.bare
theorem Inv.call{g':Array GenState}{t':Nat}{d':Drawn}{ch:List Addr}(I:Inv X pins σ H s)(u:Un (frs X.stack) ch H H' s.heap h')(hok:HOk X.prog X.w H' h')(hg:AllBare g')
  (hch:∀ b∈ch,(b∈X.ex \/ X.s₀.heap.objs.size<=b) /\ b≠X.env.locals /\ (∀ x c,X.env.cells.lookup x=some c->c≠b) /\ ∀ p∈X.pn++pins,p.1≠b):
  Inv X pins σ H' { s with heap:=h',gens:=g',drawn:=d',toks:=t' }:=by
 obtain⟨m,⟨o,es,ep,ho,r⟩,_⟩:=id I.loc
 obtain⟨sl,hL⟩:=u.any ho I.free fun z=>(hch _ z).2.1 rfl
 exact I.step (ch:=ch) hch (fun b o hL hb hc e n=>u.keep b o e n (fun z=>(List.mem_cons.mp (I.Bp b z)).elim hL hb) hc) (fun b o _ _ hc e n=>u.any e n hc) (fun b o hc e n=>u.free b o e n hc) (fun b o hc e=>u.there b o e hc) u.tups u.frzs u.tbls (fun m' hm=>by
  obtain⟨o',es',ep',ho',r'⟩:=hm;rw[ho]at ho';cases ho'
  exact⟨_,es',ep',hL,r'⟩) hok hg
theorem Inv.turned{t':Nat}{it:Addr}(I:Inv X pins σ H s)(k:∀ b o,b≠it->s.heap.get? b=some o->h'.get? b=some o)(hn:H it=none)(hL:it≠X.env.locals)
  (h1:it∈X.ex \/ X.s₀.heap.objs.size<=it) (h2:∀ x c,X.env.cells.lookup x=some c->c≠it) (h3:∀ p∈X.pn++pins,p.1≠it):Inv X pins σ H { s with heap:=h',toks:=t' }:=by
 have nit:∀ b u,H b=some u->b≠it:=fun b u e z=>by rw[z,hn]at e;cases e
 refine I.step (g':=s.gens) (d':=s.drawn) (ch:=[it]) (fun b hb=>?_) (fun b o _ _ hc e _=>k b o (fun z=>hc (by simp[z])) e) (fun b o _ _ hc e _=>⟨o.slots,k b o (fun z=>hc (by simp[z])) e⟩) (fun _ _ _ _ n=>n)
  (fun b o hc e=>⟨o,k b o (fun z=>hc (by simp[z])) e⟩) (fun _ _ e=>e) (fun _ _ _ e=>e) (fun b ps e=>⟨#[],by rw[e];simp⟩) (fun m hm=>?_) (fun b u e=>?_) I.bare
 . have e:b=it:=by simpa using hb
   subst e
   exact⟨h1,hL,h2,h3⟩
 . obtain⟨o,es,ep,ho,r⟩:=hm
   exact⟨o,es,ep,k _ o (Ne.symm hL) ho,r⟩
 . refine(I.hok b u e).vk (fun c v hc q=>k c v ?_ q) (fun _ q=>q) fun _ _ q=>q
   rcases hc with z|z
   . rw[z];exact nit b u e
   . exact nit c _ z
theorem Inv.tok(I:Inv X pins σ H s)(t:Nat):Inv X pins σ H { s with toks:=t }:=I.un (h':=s.heap) (t':=t) Un.refl I.hok
theorem Inv.kept(I:Inv X pins σ H s)(k:∀ b u,s.heap.get? b=some u->h'.get? b=some u):Inv X pins σ H { s with heap:=h',toks:=t' }:=I.un (Un.kept k) (I.hok.kept k)
theorem Inv.laid(I:Inv X pins σ H s)(k:∀ b u,s.heap.get? b=some u->h'.get? b=some u)(hp:s.heap.objs.size<=a)(new:gD X.prog X.w (upd H a o) h' a o):
  Inv X pins σ (upd H a o) { s with heap:=h',toks:=t' }:=I.un (Un.laid k hp (I.hok.fresh hp)) (I.hok.laid k hp new)
theorem Inv.write(I:Inv X pins σ H s)(mu:Mut (H x))(he:e=x \/ H e=some (.own x))(k:∀ b u,b≠e->s.heap.get? b=some u->h'.get? b=some u)(heo:∃ u,h'.get? e=some u)
  (new:gD X.prog X.w (upd H x o) h' x o):Inv X pins σ (upd H x o) { s with heap:=h',toks:=t' }:=I.un (Un.write mu he k heo) (I.hok.write mu he k heo new)
theorem Inv.Cs{pins':List (Addr×Obj)}(I:Inv X pins σ H s)(h:∀ p∈pins',s.heap.get? p.1=some p.2 /\ H p.1=none /\ p.1≠X.env.locals /\ p.1∉X.fs /\ ∀ v,p.2.data≠.cell v):Inv X pins' σ H s:=
 ⟨I.ok,I.os,I.bare,I.base,I.loc,I.cell,I.free,I.freeC,fun p hp=>(List.mem_append.mp hp).elim (fun z=>I.pin p (List.mem_append_left _ z)) (h p),I.hok,I.len⟩
theorem Ag{N:List Str}(hN:N.Nodup){i j:Nat}{x:Str}(a:N[i]?=some x)(b:N[j]?=some x):i=j:=by
 obtain⟨h1,e1⟩:=List.getElem?_eq_some_iff.mp a;obtain⟨h2,e2⟩:=List.getElem?_eq_some_iff.mp b
 exact(List.getElem_inj hN).mp (e1.trans e2.symm)
theorem Du{M:Model}{A:Around}{E:Value->Shared->Prop}{i:Nat}{x:Str}{v:V}{u:Value}{Q:Unit->Shared->Prop}(I:Inv X pins σ H s)(hN:X.N.Nodup)(hi:X.N[i]?=some x)(hx:Loc X.env.scope x)(r:RelV v u)
  (h:∀ s',Inv X pins (σ.set i (some v)) H s'->(∃ a,Heap.SameBut a s.heap s'.heap /\ (a=X.env.locals \/ X.env.cells.lookup x=some a))->Q () s') (hf:X.fn x=true \/ X.env.scope.names.lookup x=some .local:=by first|exact .inl rfl|exact .inr rfl|assumption):wpAny M A (storeName X.env x u) Q E s:=by
 obtain⟨m,hn,hl⟩:=id I.loc
 have hcls:(X.env.scope.kind == .class||(X.env.scope.kind == .module&&X.env.locals != X.env.globals))=false:=by rw[I.ok.kind];rfl
 have hiσ:i<σ.length:=by rw[I.len];exact(List.getElem?_eq_some_iff.mp hi).1
 have cne:=I.cne
 have tracked:∀{a:Addr} {h':Heap},(∃ o,s.heap.get? a=some o /\ H a=none)->Heap.SameBut a s.heap h'->HOk X.prog X.w H h':=fun {a h'} ha hs b ob e=>by
  obtain⟨_,_,hfree⟩:=ha
  refine(I.hok b ob e).vk (fun c w' hc q=>(hs.2 c ?_).trans q) (fun _ q=>q) fun _ _ q=>q
  rintro rfl
  rcases hc with rfl|hc
  . rw[hfree]at e;cases e
  . rw[hfree]at hc;cases hc
 rcases hx with hk|hk
 . refine wpAny_storeName_local hk hn (fun h' hn' hs=>?_) hcls;obtain⟨oL,_,_,hoL,_⟩:=id hn;refine h _ ⟨I.ok,I.os,I.bare,⟨fun b o e n hb hx=>?_,fun b o e n hb hx=>?_,I.base.free,fun b o e hx=>?_,I.base.tups,I.base.frzs,I.base.tbls⟩,⟨_,hn',fun j y v' e1 e2 e3=>?_⟩,fun y c e=>?_,I.free,I.freeC,fun p hp=>?_,tracked ⟨oL,hoL,I.free⟩ hs,by simpa using I.len⟩ ⟨_,hs,.inl rfl⟩
   . exact(hs.2 b (Nat.ne_of_lt (Nat.lt_of_lt_of_le (Heap.lt_size e) I.ok.above))).trans (I.base.keep b o e n hb hx)
   . obtain⟨sl,e1⟩:=I.base.slot b o e n hb hx
     exact⟨sl,(hs.2 b (Nat.ne_of_lt (Nat.lt_of_lt_of_le (Heap.lt_size e) I.ok.above))).trans e1⟩
   . obtain⟨o',e1⟩:=I.base.there b o e hx
     exact⟨o',(hs.2 b (Nat.ne_of_lt (Nat.lt_of_lt_of_le (Heap.lt_size e) I.ok.above))).trans e1⟩
   . by_cases hj:j=i
     . subst hj;rw[hi]at e1;cases e1;rw[List.getElem?_set_self hiσ]at e2;cases e2
       exact⟨u,r,.inl ⟨hk,by simp⟩⟩
     . rw[List.getElem?_set_ne (Ne.symm hj)]at e2;obtain⟨u',r',q⟩:=hl j y v' e1 e2 e3
       refine⟨u',r',?_⟩
       rcases q with⟨k,e⟩|⟨k,c,e,z⟩
       . refine .inl ⟨k,?_⟩
         have:y≠x:=fun e=>hj (Ag hN e1 (e ▸ hi))
         simp[this,e]
       . exact .inr ⟨k,c,e,z.sameBut hs (cne y c e)⟩
   . obtain⟨w',z⟩:=I.cell y c e
     exact⟨w',z.sameBut hs (cne y c e)⟩
   . obtain⟨e,n,ne,nf,d⟩:=I.pin p hp
     exact⟨(hs.2 p.1 ne).trans e,n,ne,nf,d⟩
 . have hfn:X.fn x = true:=by
    rcases hf with z|z
    . exact z
    . rw[z]at hk;cases hk
   obtain⟨c,hc⟩:=I.ok.has x (.inl hk);obtain⟨w',z⟩:=I.cell x c hc;refine wpAny_storeName_cell I.ok.kind hk hc z (fun h' hc' hs=>?_);obtain⟨oc,hoc,hocd⟩:=id z;refine h { s with heap:=h' } ⟨I.ok,I.os,I.bare,⟨fun b o e n hb hx=>?_,fun b o e n hb hx=>?_,I.base.free,fun b o e hx=>?_,I.base.tups,I.base.frzs,I.base.tbls⟩,⟨m,hn.sameBut hs (Ne.symm (cne x c hc)),fun j y v' e1 e2 e3=>?_⟩,fun y c' e=>?_,I.free,I.freeC,fun p hp=>?_,tracked ⟨oc,hoc,I.freeC x c hc⟩ hs,by simpa using I.len⟩ ⟨c,hs,.inr hc⟩
   . exact(hs.2 b (Nat.ne_of_lt (Nat.lt_of_lt_of_le (Heap.lt_size e) (I.ok.cab x c hfn hc)))).trans (I.base.keep b o e n hb hx)
   . obtain⟨sl,e1⟩:=I.base.slot b o e n hb hx
     exact⟨sl,(hs.2 b (Nat.ne_of_lt (Nat.lt_of_lt_of_le (Heap.lt_size e) (I.ok.cab x c hfn hc)))).trans e1⟩
   . obtain⟨o',e1⟩:=I.base.there b o e hx
     exact⟨o',(hs.2 b (Nat.ne_of_lt (Nat.lt_of_lt_of_le (Heap.lt_size e) (I.ok.cab x c hfn hc)))).trans e1⟩
   . by_cases hj:j=i
     . subst hj;rw[hi]at e1;cases e1;rw[List.getElem?_set_self hiσ]at e2;cases e2
       exact⟨u,r,.inr ⟨.inl hk,c,hc,hc'⟩⟩
     . rw[List.getElem?_set_ne (Ne.symm hj)]at e2;obtain⟨u',r',q⟩:=hl j y v' e1 e2 e3
       refine⟨u',r',?_⟩
       rcases q with q|⟨k,c',e,z'⟩
       . exact .inl q
       . refine .inr ⟨k,c',e,z'.sameBut hs ?_⟩
         rintro rfl
         exact hj (Ag hN e1 (I.ok.inj _ _ _ e hc ▸ hi))
   . by_cases hcc:c'=c
     . subst hcc;exact⟨_,hc'⟩
     . obtain⟨w2,z2⟩:=I.cell y c' e
       exact⟨w2,z2.sameBut hs hcc⟩
   . obtain⟨e,n,ne,nf,d⟩:=I.pin p hp
     refine⟨(hs.2 p.1 ?_).trans e,n,ne,nf,d⟩
     intro q;rw[q,hoc]at e
     have q':oc=p.2:=Option.some.inj e
     exact d w' (by rw[<- q'];exact hocd)
theorem my{E:Value->Shared->Prop}{Q:Unit->Shared->Prop}(I:Inv X pins σ H s)(hN:X.N.Nodup)(hi:X.N[i]?=some x)(hx:Loc X.env.scope x)(r:RelV v u)
  (h:∀ s',Inv X pins (σ.set i (some v)) H s'->Q () s') (hf:X.fn x=true \/ X.env.scope.names.lookup x=some .local:=by first|exact .inl rfl|exact .inr rfl|assumption):wpAny M A (storeName X.env x u) Q E s:=
 Du I hN hi hx r (fun s' I' _=>h s' I') hf
theorem Inv.Jj{s':Shared}(I:Inv X pins σ H s)(ho:s'.os=s.os)(u:Un (frs X.stack) ch H H' s.heap s'.heap)(hok:HOk X.prog X.w H' s'.heap)(hg:AllBare s'.gens)
  (hch:∀ b∈ch,(b∈X.ex \/ X.s₀.heap.objs.size<=b) /\ b≠X.env.locals /\ (∀ x c,X.env.cells.lookup x=some c->c≠b) /\ ∀ p∈X.pn++pins,p.1≠b):Inv X pins σ H' s':=by
 obtain⟨h',g',d',t',o'⟩:=s'
 have e:o'=s.os:=ho
 subst e;exact I.call (g':=g') (t':=t') (d':=d') u hok hg hch
end
abbrev XK:=Value->Option Addr->Hp->Prop
abbrev St:=List (Option V)
abbrev VK:=V->Hp->Prop
abbrev TE:=St->Hp->VK->Prop
abbrev TT:=St->Hp->(Bool->Hp->Prop)->Prop
abbrev TA:=St->Hp->(List V->Hp->Prop)->Prop
structure Ends where
 nx:St->Hp->Prop
 rt:VK
 bk:St->Hp->Prop:=fun _ _=>False
 ct:St->Hp->Prop:=fun _ _=>False
abbrev TS:=Ends->St->Hp->Prop
def EP(X:Cx)(pins:List (Addr×Obj))(σ:St)(Q:VK)(u:Value)(s':Shared):Prop:=∃ v H',Inv X pins σ H' s' /\ RelV v u /\ Q v H'
def TP(X:Cx)(pins:List (Addr×Obj))(σ:St)(Q:Bool->Hp->Prop)(b:Bool)(s':Shared):Prop:=∃ H',Inv X pins σ H' s' /\ Q b H'
def AP(X:Cx)(pins:List (Addr×Obj))(σ:St)(Q:List V->Hp->Prop)(us:List Value)(s':Shared):Prop:=∃ vs H',Inv X pins σ H' s' /\ Vals vs us /\ Q vs H'
def SP(X:Cx)(pins:List (Addr×Obj))(D:Ends)(f:Flow)(s':Shared):Prop:=
 match f with
 |.next=>∃ σ' H',Inv X pins σ' H' s' /\ D.nx σ' H'
 |.brk=>∃ σ' H',Inv X pins σ' H' s' /\ D.bk σ' H'
 |.cont=>∃ σ' H',Inv X pins σ' H' s' /\ D.ct σ' H'
 |.ret u=>∃ v σ' H',Inv X pins σ' H' s' /\ RelV v u /\ D.rt v H'
def PE(X:Cx)(e:Expr)(t:TE):Prop:=
 ∀(pins:List (Addr×Obj)) (s:Shared) (σ:St) (H:Hp) (Q:VK),Inv X pins σ H s->t σ H Q->wpAny (model X.prog X.w) X.A (eval e X.env) (EP X pins σ Q) X.xe s
def PT(X:Cx)(e:Expr)(t:TT):Prop:=
 ∀(pins:List (Addr×Obj)) (s:Shared) (σ:St) (H:Hp) (Q:Bool->Hp->Prop),Inv X pins σ H s->t σ H Q->wpAny (model X.prog X.w) X.A (isTrue e X.env (eval e X.env)) (TP X pins σ Q) X.xe s
def PW(X:Cx)(e:Expr)(t:TT):Prop:=
 ∀(whole:Sem Value) (pins:List (Addr×Obj)) (s:Shared) (σ:St) (H:Hp) (Q:Bool->Hp->Prop),Inv X pins σ H s->t σ H Q->wpAny (model X.prog X.w) X.A (isTrue e X.env whole) (TP X pins σ Q) X.xe s
theorem PW.pt(h:PW X e t):PT X e t:=h _
def PA(X:Cx)(es:List Expr)(t:TA):Prop:=
 ∀(pos:Pos) (pins:List (Addr×Obj)) (s:Shared) (σ:St) (H:Hp) (Q:List V->Hp->Prop),Inv X pins σ H s->t σ H Q->wpAny (model X.prog X.w) X.A (spliced (backTo pos (starEach es X.env))) (AP X pins σ Q) X.xe s
def PS(X:Cx)(st:Stmt)(t:TS):Prop:=
 ∀(pins:List (Addr×Obj)) (s:Shared) (σ:St) (H:Hp) (D:Ends),Inv X pins σ H s->t D σ H->wpAny (model X.prog X.w) X.A (exec st X.env) (SP X pins D) X.xe s
def PSs(X:Cx)(st:List Stmt)(t:TS):Prop:=
 ∀(pins:List (Addr×Obj)) (s:Shared) (σ:St) (H:Hp) (D:Ends),Inv X pins σ H s->t D σ H->wpAny (model X.prog X.w) X.A (execs st X.env) (SP X pins D) X.xe s
theorem thn{α:Type}{t:Sem α}{Q Q':α->Shared->Prop}{E:Value->Shared->Prop}(h:wpAny M A t Q E s)(hQ:∀ a s,Q a s->Q' a s):wpAny M A t Q' E s:=wpAny_mono h hQ fun _ _ x=>x
section
variable{X:Cx}
theorem bin(ha:PE X a ta)(hb:PE X b tb){pins:List (Addr×Obj)}{R:V->V->Hp->Prop}(I:Inv X pins σ H s)(h:ta σ H fun x H1=>tb σ H1 fun y H2=>R x y H2)
  {α:Type} {Q:α->Shared->Prop} {f:Value->Value->Sem α}
  (hf:∀ v u s2 x y H2,Inv X pins σ H2 s2->RelV x v->RelV y u->R x y H2->wpAny (model X.prog X.w) X.A (f v u) Q X.xe s2):
  wpAny (model X.prog X.w) X.A (eval a X.env) (fun v s₁=>wpAny (model X.prog X.w) X.A (eval b X.env) (fun u s₂=>wpAny (model X.prog X.w) X.A (f v u) Q X.xe s₂) X.xe s₁) X.xe s:=by
 refine thn (ha pins s σ H _ I h) fun v s1 ⟨x,H1,I1,r1,q1⟩=>?_
 refine thn (hb pins s1 σ H1 _ I1 q1) fun u s2 ⟨y,H2,I2,r2,q2⟩=>?_
 exact hf v u s2 x y H2 I2 r1 r2 q2
def AX(i:Nat):TE:=fun σ H Q=>∃ v,σ[i]?=some (some v) /\ Q v H
def tC(v:V):TE:=fun _ H Q=>Q v H
theorem K6(hN:X.N[i]?=some x)(hv:Vis X.env.scope x)(hd:(x==("__debug__":Str))=false:=by decide)(hcd:(x==("__classdict__":Str))=false:=by decide):PE X (.Name x pos) (AX i):=by
 intro pins s σ H Q I h;obtain⟨v,e,h⟩:=h;obtain⟨m,hn,hl⟩:=I.loc;obtain⟨u,r,l⟩:=hl i x v hN e hv
 have fin:EP X pins σ Q u s:=⟨v,H,I,r,h⟩
 rcases l with⟨hk,hm⟩|⟨hk,c,hc,hcell⟩
 . exact wpAny_Name (wpAny_loadName_local I.ok.kind hk hn hm fin) hd
 . rcases hk with hk|hk
   . exact wpAny_Name (wpAny_loadName_cell I.ok.kind hk hc hcell fin) hd
   . exact wpAny_Name (wpAny_loadName_free I.ok.kind hk hc hcell fin hcd) hd
theorem LJ{i j pos}:PE X (.Constant (.int i) j pos) (tC (.int i)):=fun _ _ _ H _ I h=>wpAny_Constant_int ⟨.int i,H,I.tok _,⟨_,rfl⟩,h⟩
theorem MK{b j pos}:PE X (.Constant (.bool b) j pos) (tC (.bl b)):=fun _ _ _ H _ I h=>Constant_bool ⟨.bl b,H,I,rfl,h⟩
theorem KS{j pos}:PE X (.Constant .none j pos) (tC .non):=fun _ _ _ H _ I h=>Constant_none ⟨.non,H,I,rfl,h⟩
theorem KY{x j pos}:PE X (.Constant (.str x) j pos) (tC (.str x)):=fun _ _ _ H _ I h=>Calls.Constant_str ⟨.str x,H,I.tok _,⟨_,rfl⟩,h⟩
def Gl(X:Cx)(x:Str):Prop:=X.env.kindOf x=some .globalImplicit
theorem vt{E:Value->Shared->Prop}{pins:List (Addr×Obj)}{Q:Value->Shared->Prop}(I:Inv X pins σ H s)(hg:Gl X x)(hm:X.mg x=some u)(h:Q u s)
  (hd:(x==("__debug__":Str))=false:=by decide):wpAny (model X.prog X.w) X.A (eval (.Name x pos) X.env) Q E s:=
 Calls.Name_function_global I.ok.kind hg (Calls.loadGlobal_global (by rw[I.ok.glob];exact I.mod.glob.keeps I.bk) hm h) hd
theorem wJ{E:Value->Shared->Prop}{pins:List (Addr×Obj)}{Q:Value->Shared->Prop}(I:Inv X pins σ H s)(hg:Gl X x)(hm:X.mg x=none)(hv:bootBuiltins x=some u)(h:Q u s)
  (hn:x ≠ "__name__":=by decide) (hd:(x==("__debug__":Str))=false:=by decide):wpAny (model X.prog X.w) X.A (eval (.Name x pos) X.env) Q E s:=by
 obtain⟨mb,h1,h2⟩:=I.mod.blt;exact Calls.Name_function_global I.ok.kind hg (Calls.loadGlobal_builtin (by rw[I.ok.glob];exact I.mod.glob.keeps I.bk) hm (by rw[I.ok.blt];exact h1.keeps I.bk) ((h2 x hn).trans hv) h) hd
theorem IS(hg:Gl X x)(hm:X.mg x=some u)(r:RelV v u)(hd:(x==("__debug__":Str))=false:=by decide):PE X (.Name x pos) (tC v):=
 fun _ _ _ H _ I h=>vt I hg hm ⟨v,H,I,r,h⟩ hd
theorem GZ(hg:Gl X x)(hm:X.mg x=none)(hv:bootBuiltins x=some u)(r:RelV v u)(hn:x ≠ "__name__":=by decide)(hd:(x==("__debug__":Str))=false:=by decide):PE X (.Name x pos) (tC v):=
 fun _ _ _ H _ I h=>wJ I hg hm hv ⟨v,H,I,r,h⟩ hn hd
variable{a b:Expr}{ta tb:TE}{pos:Pos}
def PC(X:Cx)(op:CmpOp)(a b:Expr)(t:TE):Prop:=
 ∀(pins:List (Addr×Obj)) (s:Shared) (σ:St) (H:Hp) (Q:VK),Inv X pins σ H s->t σ H Q ->
   wpAny (model X.prog X.w) X.A (eval a X.env) (fun v s₁=>wpAny (model X.prog X.w) X.A (eval b X.env) (fun u s₂=>wpAny (model X.prog X.w) X.A (compareOp op v u) (EP X pins σ Q) X.xe s₂) X.xe s₁) X.xe s
theorem An(b:Expr)(h:op≠.In)(h2:op≠.NotIn):behindInMarks op b=false:=by
 have e1:(op==CmpOp.In)=false:=by cases op<;>first|rfl|exact absurd rfl h
 have e2:(op==CmpOp.NotIn)=false:=by cases op<;>first|rfl|exact absurd rfl h2
 cases b<;>simp[behindInMarks,e1,e2]
def tB(t:TE):TT:=fun σ H Q=>t σ H fun x H1=>∃ c,x=.bl c /\ Q c H1
theorem K7(h:PC X op a b t)(h1:behindInMarks op b=false:=by first|exact An _ (by decide) (by decide)|rfl):PT X (.Compare a [op] [b] pos) (tB t):=by
 intro pins s σ H Q I hw;refine wpAny_isTrue_Compare1 (thn (h pins s σ H _ I hw) fun v s1 h1=>thn h1 fun u s2 h2=>thn h2 fun c s3 ⟨x,H1,I1,r1,q1⟩=>?_) h1;obtain⟨d,rfl,q⟩:=q1;cases r1;exact wpAny_truthy_bool ⟨H1,I1,q⟩
variable{tA tB':TT}{rest:List Expr}
def KG(t u:TT):TT:=fun σ H Q=>t σ H fun c H1=>if c=true then u σ H1 Q else Q false H1
def tOr(t u:TT):TT:=fun σ H Q=>t σ H fun c H1=>if c=true then Q true H1 else u σ H1 Q
def HH(t:TT):TT:=fun σ H Q=>t σ H fun c H1=>Q (!c) H1
theorem G6(ha:PT X a tA):PW X (.BoolOp .And [a] pos) tA:=by
 intro wh pins s σ H Q I h;refine isTrue_and (thn (ha pins s σ H Q I h) fun c s1 e=>?_)
 cases c with
 |true=>exact isTrue_and_nil e
 |false=>exact e
theorem L4(ha:PT X a tA):PW X (.BoolOp .Or [a] pos) tA:=by
 intro wh pins s σ H Q I h;refine isTrue_or (thn (ha pins s σ H Q I h) fun c s1 e=>?_)
 cases c with
 |false=>exact isTrue_or_nil e
 |true=>exact e
theorem Kx(ha:PT X a tA)(hb:PW X (.BoolOp .And (b ::rest) pos) tB'):PW X (.BoolOp .And (a ::b ::rest) pos) (KG tA tB'):=by
 intro wh pins s σ H Q I h;refine isTrue_and (thn (ha pins s σ H _ I h) fun c s1 ⟨H1,I1,q1⟩=>?_)
 cases c with
 |true=>exact hb wh pins s1 σ H1 Q I1 q1
 |false=>exact⟨H1,I1,q1⟩
theorem MV(ha:PT X a tA)(hb:PW X (.BoolOp .Or (b ::rest) pos) tB'):PW X (.BoolOp .Or (a ::b ::rest) pos) (tOr tA tB'):=by
 intro wh pins s σ H Q I h;refine isTrue_or (thn (ha pins s σ H _ I h) fun c s1 ⟨H1,I1,q1⟩=>?_)
 cases c with
 |true=>exact⟨H1,I1,q1⟩
 |false=>exact hb wh pins s1 σ H1 Q I1 q1
theorem L9(ha:PT X a tA):PT X (.UnaryOp .Not a pos) (HH tA):=by
 intro pins s σ H Q I h;exact isTrue_not (ha pins s σ H (fun c H1=>Q (!c) H1) I h)
def Gr(ta tb:TE):TE:=fun σ H Q=>ta σ H fun x H1=>∃ c,x=.bl c /\ if c=true then tb σ H1 Q else Q (.bl false) H1
def FF(ta:TE):TE:=fun σ H Q=>ta σ H fun x H1=>∃ c,x=.bl c /\ Q (.bl (!c)) H1
theorem L3{op}(h:PE X a t):PE X (.BoolOp op [a] pos) t:=fun pins s σ H Q I hw=>BoolOp_one (h pins s σ H Q I hw)
theorem Ka(ha:PE X a ta)(hb:PE X (.BoolOp .And (b ::rest) pos) tb):PE X (.BoolOp .And (a ::b ::rest) pos) (Gr ta tb):=by
 intro pins s σ H Q I h;refine BoolOp_and (thn (ha pins s σ H _ I h) fun v s1 ⟨x,H1,I1,r1,q1⟩=>?_);obtain⟨c,rfl,q1⟩:=q1;cases r1;refine wpAny_truthy_bool ?_
 cases c with
 |true=>exact hb pins s1 σ H1 Q I1 q1
 |false=>exact⟨.bl false,H1,I1,rfl,q1⟩
theorem Lm(ha:PE X a ta):PE X (.UnaryOp .Not a pos) (FF ta):=by
 intro pins s σ H Q I h;refine UnaryOp_ (thn (ha pins s σ H _ I h) fun v s1 ⟨x,H1,I1,r1,q1⟩=>?_);obtain⟨c,rfl,q1⟩:=q1;cases r1;exact not_of (wpAny_truthy_bool ⟨.bl (!c),H1,I1,rfl,q1⟩)
def tIf(t:TT)(ta tb:TE):TE:=fun σ H Q=>t σ H fun c H1=>if c=true then ta σ H1 Q else tb σ H1 Q
theorem FA(hc:PT X c tA)(ha:PE X a ta)(hb:PE X b tb):PE X (.IfExp c a b pos) (tIf tA ta tb):=by
 intro pins s σ H Q I h;refine wpAny_IfExp (thn (hc pins s σ H _ I h) fun d s1 ⟨H1,I1,q1⟩=>?_)
 cases d with
 |true=>exact ha pins s1 σ H1 Q I1 q1
 |false=>exact hb pins s1 σ H1 Q I1 q1
end
def SqL(K:PySem.W.Frag)(H:Hp)(a:Addr)(xs:List V):Prop:=
 Rd H a (.lst xs) \/
  ∃(o:Obj) (its:Array Value) (n:Nat),K.lookup a=some o /\ o.cls=.type "list" /\ o.dict=none /\ o.data=.seq its n /\ its.size<=sizeLine /\ Vals xs its.toList
def SqT(K:PySem.W.Frag)(H:Hp)(a:Addr)(xs:List V):Prop:=
 Rd H a (.tup xs) \/
  ∃(o:Obj) (its:Array Value) (n:Nat),K.lookup a=some o /\ o.cls=.type "tuple" /\ o.data=.seq its n /\ its.size<=sizeLine /\ Vals xs its.toList
def NY:Value->Option V
 |.none=>some .non
 |.bool b=>some (.bl b)
 |.int i _=>some (.int i)
 |.str x _=>some (.str x)
 |.bytes b _=>some (.byt b)
 |.float b _=>some (.flt b)
 |.ref a=>some (.ref a)
 |.type n=>some (.ty n)
 |_=>none
theorem RelV.abs(r:RelV x u):NY u=some x:=by
 cases x with
 |non=>cases r;rfl
 |bl _=>cases r;rfl
 |int _=>obtain⟨t,rfl⟩:=r;rfl
 |str _=>obtain⟨t,rfl⟩:=r;rfl
 |byt _=>obtain⟨t,rfl⟩:=r;rfl
 |flt _=>obtain⟨t,rfl⟩:=r;rfl
 |ref _=>cases r;rfl
 |ty _=>cases r;rfl
theorem RelV.inj(r:RelV x u)(q:RelV y u):x=y:=Option.some.inj (r.abs.symm.trans q.abs)
theorem Vals.inj:∀{xs ys:List V} {us:List Value},Vals xs us->Vals ys us->xs=ys
 |_,_,_,.nil,.nil=>rfl
 |_,_,_,.cons r t,.cons r' t'=>by rw[r.inj r',Vals.inj t t']
section
variable{X:Cx}{pins:List (Addr×Obj)}{σ:St}{H:Hp}{s:Shared}{a:Addr}{xs ys:List V}
theorem Inv.list(I:Inv X pins σ H s)(h:SqL X.K H a xs):∃ its:List Value,Vals xs its /\ PlainL s.heap a its.toArray /\ xs.length<=sizeLine:=by
 rcases h with h|⟨o,its,n,hk,hc,hd,hs,hz,r⟩
 . obtain⟨z,its,n,r,e⟩:=h.ok I.hok
   exact⟨its,r,⟨_,n,e,rfl,rfl,rfl⟩,z⟩
 . refine⟨its.toList,r,⟨o,n,I.kIn a o hk,hc,hd,by simpa using hs⟩,?_⟩
   have e:=r.length;simp only[Array.length_toList]at e;omega
theorem Inv.tuple(I:Inv X pins σ H s)(h:SqT X.K H a xs):∃ its:List Value,Vals xs its /\ IsTup s.heap a its.toArray /\ xs.length<=sizeLine:=by
 rcases h with h|⟨o,its,n,hk,hc,hs,hz,r⟩
 . obtain⟨z,its,r,p⟩:=h.ok I.hok
   exact⟨its,r,p,z⟩
 . refine⟨its.toList,r,⟨o,I.kIn a o hk,hc,n,by simpa using hs⟩,?_⟩
   have e:=r.length;simp only[Array.length_toList]at e;omega
theorem Inv.Az(I:Inv X pins σ H s)(h:SqL X.K H a xs)(h':SqL X.K H a ys):xs=ys:=by
 obtain⟨its,r,⟨o,n,e,_,_,d⟩,_⟩:=I.list h;obtain⟨its',r',⟨o',n',e',_,_,d'⟩,_⟩:=I.list h';rw[e]at e';cases e';rw[d]at d'
 injection d' with d1 _
 have:its=its':=by simpa using congrArg Array.toList d1
 subst this;exact r.inj r'
theorem Inv.Dh(I:Inv X pins σ H s)(h:SqT X.K H a xs)(h':SqT X.K H a ys):xs=ys:=by
 obtain⟨its,r,⟨o,e,_,n,d⟩,_⟩:=I.tuple h;obtain⟨its',r',⟨o',e',_,n',d'⟩,_⟩:=I.tuple h';rw[e]at e';cases e';rw[d]at d'
 injection d' with d1 _
 have:its=its':=by simpa using congrArg Array.toList d1
 subst this;exact r.inj r'
end
section
variable{X:Cx}{st:Stmt}{rest:List Stmt}{t u:TS}{e:Expr}{te:TE}{pos:Pos}
def Gh:TS:=fun D σ H=>D.nx σ H
def KN(t u:TS):TS:=fun D σ H=>t { D with nx:=u D } σ H
theorem Hb:PSs X [] Gh:=fun _ _ σ H _ I h=>wpAny_execs_nil ⟨σ,H,I,h⟩
theorem EI(h1:PS X st t)(h2:PSs X rest u):PSs X (st ::rest) (KN t u):=by
 intro pins s σ H D I h;refine wpAny_execs_cons (thn (h1 pins s σ H { D with nx:=u D } I h) fun f s1 q=>?_)
 cases f with
 | next=>
   obtain⟨σ',H',I',q⟩:=q;exact h2 pins s1 σ' H' D I' q
 |ret v=>exact q
 |brk=>exact q
 |cont=>exact q
theorem Iu(h1:PS X st t):PSs X [st] t:=by
 intro pins s σ H D I h;refine wpAny_execs_cons (thn (h1 pins s σ H D I h) fun f s1 q=>?_)
 cases f with
 |next=>exact wpAny_execs_nil q
 |ret v=>exact q
 |brk=>exact q
 |cont=>exact q
theorem Inv.quiet{pins:List (Addr×Obj)}(I:Inv X pins σ H s):interactive X.env=false:=by simp[interactive,I.ok.kind]
def uX(te:TE):TS:=fun D σ H=>te σ H fun _ H1=>D.nx σ H1
theorem IW(he:PE X e te)(hs:swapsWith e none pos.line X.env=pure false:=by rfl):PS X (.Expr e pos) (uX te):=by
 intro pins s σ H D I h;exact wpAny_Expr_any (thn (he pins s σ H _ I h) fun v s1 ⟨x,H1,I1,r1,q1⟩=>⟨σ,H1,I1,q1⟩) I.quiet hs
def IE(te:TE):TS:=fun D σ H=>te σ H D.rt
theorem KA(he:PE X e te):PS X (.Return (some e) pos) (IE te):=by
 intro pins s σ H D I h;exact wpAny_Return_some (thn (he pins s σ H _ I h) fun v s1 ⟨x,H1,I1,r1,q1⟩=>⟨x,σ,H1,I1,r1,q1⟩)
def IT(c:TT)(t u:TS):TS:=fun D σ H=>c σ H fun b H1=>if b=true then t D σ H1 else u D σ H1
theorem Nj(hc:PT X c tc)(ha:PSs X a t)(hb:PSs X b u):PS X (.If c a b pos) (IT tc t u):=by
 intro pins s σ H D I h;refine wpAny_If (thn (hc pins s σ H _ I h) fun d s1 ⟨H1,I1,q1⟩=>?_)
 cases d with
 |true=>exact ha pins s1 σ H1 D I1 q1
 |false=>exact hb pins s1 σ H1 D I1 q1
end
abbrev TG:=V->St->Hp->(St->Hp->Prop)->Prop
abbrev TGs:=List V->St->Hp->(St->Hp->Prop)->Prop
def PG(X:Cx)(target:Expr)(t:TG):Prop:=
 ∀(pins:List (Addr×Obj)) (s:Shared) (σ:St) (H:Hp) (v:V) (u:Value) (Q:St->Hp->Prop),Inv X pins σ H s->RelV v u->t v σ H Q ->
   wpAny (model X.prog X.w) X.A (assign target X.env u) (fun _ s'=>∃ σ' H',Inv X pins σ' H' s' /\ Q σ' H') X.xe s
def PGs(X:Cx)(ts:List Expr)(t:TGs):Prop:=
 ∀(pins:List (Addr×Obj)) (s:Shared) (σ:St) (H:Hp) (vs:List V) (us:List Value) (Q:St->Hp->Prop),Inv X pins σ H s->Vals vs us->t vs σ H Q ->
   wpAny (model X.prog X.w) X.A (assignInOrder ((assignEach ts X.env).map (·.2)) us) (fun _ s'=>∃ σ' H',Inv X pins σ' H' s' /\ Q σ' H') X.xe s
abbrev Kg:=V->V->V->Hp->(Hp->Prop)->Prop
def Lo(X:Cx)(t:Kg):Prop:=
 ∀(pins:List (Addr×Obj)) (s:Shared) (σ:St) (H:Hp) (o i v:V) (ov iv u:Value) (Q:Hp->Prop),Inv X pins σ H s->RelV o ov->RelV i iv->RelV v u->t o i v H Q ->
   wpAny (model X.prog X.w) X.A (setItem ov iv u) (fun _ s'=>∃ H',Inv X pins σ H' s' /\ Q H') X.xe s
abbrev TIp:=V->V->Hp->VK->Prop
def PIp(X:Cx)(op:Operator)(t:TIp):Prop:=
 ∀(pins:List (Addr×Obj)) (s:Shared) (σ:St) (H:Hp) (x y:V) (v u:Value) (Q:VK),Inv X pins σ H s->RelV x v->RelV y u->t x y H Q ->
   wpAny (model X.prog X.w) X.A (inplaceOp op v u) (EP X pins σ Q) X.xe s
section
variable{X:Cx}{pos:Pos}
def mm(i:Nat):TG:=fun v σ H Q=>Q (σ.set i (some v)) H
theorem IZ(hN:X.N.Nodup)(hi:X.N[i]?=some x)(hx:Loc X.env.scope x)(hf:X.fn x=true \/ X.env.scope.names.lookup x=some .local:=by first|exact .inl rfl|exact .inr rfl|assumption):PG X (.Name x pos) (mm i):=by
 intro pins s σ H v u Q I r h;exact wpAny_assign_Name (my I hN hi hx r (fun s' I'=>⟨_,H,I',h⟩) hf)
def LH:TGs:=fun vs σ H Q=>vs=[] /\ Q σ H
def Cy(t:TG)(u:TGs):TGs:=fun vs σ H Q=>∃ v r,vs=v ::r /\ t v σ H fun σ' H'=>u r σ' H' Q
theorem ID:PGs X [] LH:=by
 intro pins s σ H vs us Q I r h;obtain⟨e,h⟩:=h;subst e;cases r;exact assignInOrder_nil ⟨σ,H,I,h⟩
theorem EB(h1:PG X e t)(h2:PGs X es u)
  (hs:(assignEach (e ::es) X.env).map (·.2)=assign e X.env ::(assignEach es X.env).map (·.2):=by rfl):PGs X (e ::es) (Cy t u):=by
 intro pins s σ H vs us Q I r h;obtain⟨v,vr,e1,h⟩:=h;subst e1
 cases r with
 | cons r rr=>
   rw[hs];refine assignInOrder_cons (thn (h1 pins s σ H _ _ _ I r h) fun _ s1 ⟨σ1,H1,I1,q1⟩=>?_);exact h2 pins s1 σ1 H1 _ _ Q I1 rr q1
def Kn(K:PySem.W.Frag)(n:Nat)(t:TGs):TG:=fun v σ H Q=>∃ a xs,v=.ref a /\ SqT K H a xs /\ xs.length=n /\ t xs σ H Q
theorem LC(hc:X.calm=true)(h:PGs X es t)
  (hn:(assignEach es X.env).length=n:=by rfl) (hst:(assignEach es X.env).findIdx? (·.1)=none:=by rfl):PG X (.Tuple es k pos) (Kn X.K n t):=by
 intro pins s σ H v u Q I r hw;obtain⟨a,xs,e1,hq,hl,hw⟩:=hw;subst e1;cases r;obtain⟨its,rv,ht,hz⟩:=I.tuple hq
 refine assign_Tuple_tuple (I.ok.hd hc) ht (by simp[hn,<- hl,rv.length]) hst fun h' hx=>?_
 have I1:Inv X pins σ H { s with heap:=h' }:=I.kept (t':=s.toks) fun b o e=>hx b o (Nat.ne_of_lt (Heap.lt_size e)) e
 exact h pins _ σ H xs _ Q I1 (by simpa using rv) hw
def Il(to ti:TE)(t:Kg):TG:=fun v σ H Q=>to σ H fun o H1=>ti σ H1 fun i H2=>t o i v H2 fun H3=>Q σ H3
theorem Mj(ho:PE X o to)(hi:PE X i ti)(hs:Lo X t)
  (ha:∀ v,assign (.Subscript o i pos) X.env v=(do
    let ov <- holding [v] (eval o X.env)
    let iv <- holding [v,ov] (eval i X.env)
    standAt pos
    holding [v,ov,iv] (setItem ov iv v)
    release [v,ov,iv] []):=by intro _;rfl):PG X (.Subscript o i pos) (Il to ti t):=by
 intro pins s σ H v u Q I r h;rw[ha];refine wpAny_bind (wpAny_holding (thn (ho pins s σ H _ I h) fun ov s1 ⟨x,H1,I1,r1,q1⟩=>?_));refine wpAny_bind (wpAny_holding (thn (hi pins s1 σ H1 _ I1 q1) fun iv s2 ⟨y,H2,I2,r2,q2⟩=>?_));refine wpAny_bind (wpAny_standAt (wpAny_bind (wpAny_holding (thn (hs pins s2 σ H2 x y v ov iv u _ I2 r1 r2 r q2) fun _ s3 ⟨H3,I3,q3⟩=>?_))));exact wpAny_release ⟨σ,H3,I3,q3⟩
def vm(te:TE)(g:TG):TS:=fun D σ H=>te σ H fun x H1=>g x σ H1 D.nx
theorem Mn(he:PE X e te)(hg:PG X tg g)(hs:swapsWithSole [tg] e pos.line X.env=pure false:=by rfl)(hw:swappedStores [tg] e X.env=pure none:=by rfl)
  (h1:(assignEach [tg] X.env).map (·.2)=[assign tg X.env]:=by rfl):PS X (.Assign [tg] e pos) (vm te g):=by
 intro pins s σ H D I h;refine wpAny_Assign_stores (thn (he pins s σ H _ I h) fun v s1 ⟨x,H1,I1,r1,q1⟩=>?_) hs hw;rw[h1]
 exact thn (hg pins s1 σ H1 x v _ I1 r1 q1) fun _ s2 q=>q
theorem L6(hN:X.N.Nodup)(hi:X.N[i]?=some x)(hx:Loc X.env.scope x)(he:PE X e te)(hs:swapsWith e (some (.Name x pos')) pos.line X.env=pure false:=by rfl)(hf:X.fn x=true \/ X.env.scope.names.lookup x=some .local:=by first|exact .inl rfl|exact .inr rfl|assumption):
  PS X (.Assign [.Name x pos'] e pos) (vm te (mm i)):=by
 intro pins s σ H D I h;refine wpAny_Assign_Name (thn (he pins s σ H _ I h) fun v s1 ⟨y,H1,I1,r1,q1⟩=>?_) hs;exact my I1 hN hi hx r1 (fun s2 I2=>⟨_,H1,I2,q1⟩) hf
def G0(i:Nat)(te:TE)(ti:TIp):TS:=fun D σ H=>∃ x,σ[i]?=some (some x) /\ te σ H fun y H1=>ti x y H1 fun z H2=>D.nx (σ.set i (some z)) H2
theorem KR(hN:X.N.Nodup)(hi:X.N[i]?=some x)(hx:Loc X.env.scope x)(he:PE X e te)(ho:PIp X op ti)(hf:X.fn x=true \/ X.env.scope.names.lookup x=some .local:=by first|exact .inl rfl|exact .inr rfl|assumption):
  PS X (.AugAssign (.Name x pos') op e pos) (G0 i te ti):=by
 intro pins s σ H D I h;obtain⟨v,e1,h⟩:=h;obtain⟨m,hn,hl⟩:=I.loc
 have vis:Vis X.env.scope x:=by rcases hx with k|k;exact .inl k;exact .inr (.inl k)
 obtain⟨u,r,l⟩:=hl i x v hi e1 vis;refine wpAny_AugAssign_Name ?_
 have go:wpAny (model X.prog X.w) X.A (eval e X.env) (fun w s₂=>wpAny (model X.prog X.w) X.A (inplaceOp op u w) (fun r s₃=>wpAny (model X.prog X.w) X.A (storeName X.env x r) (fun _=>SP X pins D .next) X.xe s₃) X.xe s₂) X.xe s:=by
  refine thn (he pins s σ H _ I h) fun w s1 ⟨y,H1,I1,r1,q1⟩=>?_
  refine thn (ho pins s1 σ H1 v y u w _ I1 r r1 q1) fun z s2 ⟨zv,H2,I2,r2,q2⟩=>?_
  exact my I2 hN hi hx r2 (fun s3 I3=>⟨_,H2,I3,q2⟩) hf
 rcases l with⟨hk,hm⟩|⟨hk,c,hc,hcell⟩
 . exact wpAny_loadName_local I.ok.kind hk hn hm go
 . rcases hk with hk|hk
   . exact wpAny_loadName_cell I.ok.kind hk hc hcell go
   . rcases hx with k|k
     . have:X.env.scope.names.lookup x=some .free:=hk
       rw[k]at this;cases this
     . have:X.env.scope.names.lookup x=some .free:=hk
       rw[k]at this;cases this
def ipI(f:Int->Int->Int):TIp:=fun x y H Q=>∃ i j,x=.int i /\ y=.int j /\ Q (.int (f i j)) H
theorem ui:PIp X .Add (ipI fun i j=>i+j):=by
 intro pins s σ H x y v u Q I r1 r2 h;obtain⟨i,j,e1,e2,q⟩:=h;subst e1;subst e2;obtain⟨t,rfl⟩:=r1;obtain⟨t',rfl⟩:=r2;exact iadd_int ⟨.int _,H,I.tok _,⟨_,rfl⟩,q⟩
end
section
variable{X:Cx}{pos:Pos}
def Bu(c:TT)(tb:TS):TS:=fun D σ H=>∃ W:Nat->St->Hp->Prop,(∃ m,W m σ H) /\ ∀ m σ H,W m σ H ->
 c σ H fun b H1=>if b=true then ∃ N:St->Hp->Prop,(∀ σ' H',N σ' H'->∃ m',m'<m /\ W m' σ' H') /\ tb { D with nx:=N,ct:=N,bk:=D.nx } σ H1 else D.nx σ H1
theorem Fl(hp:PassesOwn (model X.prog X.w) X.A X.env X.xe)(hc:PT X c tc)(hb:PSs X body tb):PS X (.While c body [] pos) (Bu tc tb):=by
 intro pins s σ H D I h;obtain⟨W,⟨m0,w0⟩,turn⟩:=h;refine wpAny_While (codeAny_whileLoop (fun n s'=>∃ σ' H',Inv X pins σ' H' s' /\ W n σ' H') ?_ m0 ⟨σ,H,I,w0⟩)
 rintro n s1 ⟨σ1,H1,I1,w1⟩
 refine wpAny_passesOwn hp (thn (hc pins s1 σ1 H1 _ I1 (turn n σ1 H1 w1)) fun b s2 ⟨H2,I2,q2⟩=>?_)
 cases b with
 | true=>
   obtain⟨N,hN,q2⟩:=q2;rw[if_pos rfl];refine wpAny_passesOwn hp (thn (hb pins s2 σ1 H2 _ I2 q2) fun f s3 q3=>?_)
   cases f with
   | next=>
     obtain⟨σ3,H3,I3,n3⟩:=q3;obtain⟨m',hm,w3⟩:=hN σ3 H3 n3
     exact⟨m',hm,σ3,H3,I3,w3⟩
   | cont=>
     obtain⟨σ3,H3,I3,n3⟩:=q3;obtain⟨m',hm,w3⟩:=hN σ3 H3 n3
     exact⟨m',hm,σ3,H3,I3,w3⟩
   |brk=>exact q3
   |ret v=>exact q3
 | false=>
   rw[if_neg Bool.false_ne_true];exact wpAny_execs_nil ⟨σ1,H2,I2,q2⟩
end
structure It where
 go:Nat->Hp->Prop
 yld:Nat->Hp->V->Hp->Prop
 stop:Nat->Hp->Prop
def pQ(X:Cx)(pins:List (Addr×Obj))(H:Hp)(b:Addr):Prop:=
 H b=none /\ b≠X.env.locals /\ b∉X.fs /\ (b∈X.ex \/ X.s₀.heap.objs.size<=b) /\ (∀ x c,X.env.cells.lookup x=some c->c≠b) /\ ∀ p∈X.pn++pins,p.1≠b
theorem Inv.Dw{pins:List (Addr×Obj)}{s:Shared}(I:Inv X pins σ H s)(hb:s.heap.objs.size<=b)(hn:H' b=none):pQ X pins H' b:=by
 refine⟨hn,Nat.ne_of_gt (Nat.lt_of_lt_of_le I.lt hb),I.Oa hb,.inr (Nat.le_trans I.sz hb),fun x c e z=>?_,fun p hp z=>?_⟩
 . obtain⟨v,q⟩:=I.cell x c e;exact absurd (Nat.lt_of_lt_of_le q.lt (by rw[z];exact hb)) (Nat.lt_irrefl _)
 . exact absurd (Nat.lt_of_lt_of_le (Heap.lt_size (I.pin p hp).1) (by rw[z];exact hb)) (Nat.lt_irrefl _)
structure Turn(P:Program)(w:World)(K:PySem.W.Frag)(tg:Expr)(J:It)(fp:List Addr)(it:Addr)(tn:Nat->Heap->Prop):Prop where
 mem:it∈fp
 obj:∀ i h,tn i h->∀ b∈fp,∃ o,h.get? b=some o /\ ∀ v,o.data≠.cell v
 keep:∀ i h h',tn i h->(∀ b∈fp,∀ o,h.get? b=some o->h'.get? b=some o)->tn i h'
 item:∀(X:Cx),X.prog=P->X.w=w->X.K=K->X.calm=true->∀(i:Nat) (pins:List (Addr×Obj)) (s:Shared) (σ:St) (H:Hp) (E:Value->Shared->Prop),Inv X pins σ H s->(∀ b∈fp,pQ X pins H b)->tn i s.heap->J.go i H ->
  wpAny (model P w) X.A (pyNext (.ref it)) (fun r s1=>∃ u,r=some u /\
   wpAny (model P w) X.A (letOwnedTupleGo tg (.ref it) u) (fun _ s2=>∃ x H',Inv X pins σ H' s2 /\ RelV x u /\ J.yld i H x H' /\ tn (i+1) s2.heap /\ ∀ b∈fp,H' b=none) E s1) E s
 done:∀(X:Cx),X.prog=P->X.w=w->X.K=K->X.calm=true->∀(i:Nat) (pins:List (Addr×Obj)) (s:Shared) (σ:St) (H:Hp) (E:Value->Shared->Prop),Inv X pins σ H s->(∀ b∈fp,pQ X pins H b)->tn i s.heap->J.stop i H ->
  wpAny (model P w) X.A (pyNext (.ref it)) (fun r s1=>r=none /\ Inv X pins σ H s1) E s
 self:∀(A:Around) (i:Nat) (s:Shared) (Q:Value->Shared->Prop) (E:Value->Shared->Prop),tn i s.heap->Q (.ref it) s->wpAny (model P w) A (pyIter (.ref it)) Q E s
abbrev TI:=St->Hp->(It->Hp->Prop)->Prop
def PIE(X:Cx)(pins:List (Addr×Obj))(σ:St)(tg:Expr)(R:It->Hp->Prop)(itv:Value)(s2:Shared):Prop:=
 ∃(it:Addr) (fp:List Addr) (tn:Nat->Heap->Prop) (J:It) (H':Hp),itv=.ref it /\ Inv X pins σ H' s2 /\ Turn X.prog X.w X.K tg J fp it tn /\ tn 0 s2.heap /\ (∀ b∈fp,pQ X pins H' b) /\ R J H'
def PI(X:Cx)(tg iter:Expr)(wi:TI):Prop:=
 ∀(pins:List (Addr×Obj)) (s:Shared) (σ:St) (H:Hp) (R:It->Hp->Prop),Inv X pins σ H s->wi σ H R ->
   wpAny (model X.prog X.w) X.A (eval iter X.env) (fun v s1=>wpAny (model X.prog X.w) X.A (pyIter v) (PIE X pins σ tg R) X.xe s1) X.xe s
theorem Cb{E:Value->Shared->Prop}{s:Shared}{o:Obj}{vs:Array Value}{Q:Unit->Shared->Prop}(ho:s.heap.get? it=some o)(hc:o.cls=.type n)(hd:o.data=.fields vs)
  (hn:["enumerate","zip","dict_itemiterator","dict_reverseitemiterator","odict_iterator","itertools.zip_longest","itertools.pairwise"].contains n=false) (hQ:Q () s):wpAny M A (letOwnedTupleGo tg (.ref it) u) Q E s:=by
 unfold letOwnedTupleGo
 cases tg<;>first
  |exact wpAny_pure hQ
  | (cases u <;> first
      |exact wpAny_pure hQ
      | (refine wpAny_bind (wpAny_load ho ?_)
         rw[hc,hd];show wpAny M A (if(["enumerate","zip","dict_itemiterator","dict_reverseitemiterator","odict_iterator","itertools.zip_longest","itertools.pairwise"].contains n&&vs[0]?==some (rawInt _))=true then _ else _) Q E s;rw[if_neg (by intro h;rw[hn,Bool.false_and]at h;cases h)]
         exact wpAny_pure hQ))
def Itl(K:PySem.W.Frag)(a:Addr):It:=
 ⟨fun i H=>∃ xs x,SqL K H a xs /\ xs[i]?=some x,fun i H x H'=>H'=H /\ ∀ xs,SqL K H a xs->xs[i]?=some x,fun i H=>∃ xs,SqL K H a xs /\ xs.length<=i⟩
def Itt(K:PySem.W.Frag)(a:Addr):It:=
 ⟨fun i H=>∃ xs x,SqT K H a xs /\ xs[i]?=some x,fun i H x H'=>H'=H /\ ∀ xs,SqT K H a xs->xs[i]?=some x,fun i H=>∃ xs,SqT K H a xs /\ xs.length<=i⟩
def Itr(lo:Int)(n:Nat):It:=⟨fun i _=>i<n,fun i H x H'=>H'=H /\ x=.int (lo+i),fun i _=>n<=i⟩
theorem Dl{K:PySem.W.Frag}(a it:Addr):Turn P w K tg (Itl K a) [it] it (fun i h=>h.IsListIter it a i) where
 mem:=by simp
 obj:=fun i h st b hb=>by
  have e:b=it:=by simpa using hb
  subst e;obtain⟨o,e,c,d⟩:=st
  exact⟨o,e,fun v z=>by rw[d]at z;cases z⟩
 keep:=fun i h h' st k=>st.at fun o e=>k it (by simp) o e
 item:=by
  intro X hP hw hK hc i pins s σ H E I hf st hg;subst hP hw hK;obtain⟨xs,x,hq,hx⟩:=hg;obtain⟨its,rv,p,hz⟩:=I.list hq;obtain⟨u,hu,ru⟩:=rv.get hx;obtain⟨f0,f1,f2,f3,f4,f5⟩:=hf it (by simp)
  refine wpAny_pyNext_list_item st p.isList (x:=u) (by simpa using hu) fun h' st' sb=>?_
  have I1:Inv X pins σ H { s with heap:=h' }:=I.turned (t':=s.toks) (fun b o hb e=>(sb.2 b hb).trans e) f0 f1 f3 f4 f5
  obtain⟨o,e,c,d⟩:=id st'
  exact⟨u,rfl,Cb (s:={ s with heap:=h' }) e c d (by decide) ⟨x,H,I1,ru,⟨rfl,fun ys hy=>by rw[I.Az hy hq];exact hx⟩,st',fun b hb=>(hf b hb).1⟩⟩
 done:=by
  intro X hP hw hK hc i pins s σ H E I hf st hg;subst hP hw hK;obtain⟨xs,hq,hx⟩:=hg;obtain⟨its,rv,p,hz⟩:=I.list hq;obtain⟨f0,f1,f2,f3,f4,f5⟩:=hf it (by simp);have hl:=rv.length
  exact wpAny_pyNext_list_end (I.ok.hd hc) st p.isList (by simp;omega) fun h' eb=>⟨rfl,I.turned (t':=s.toks) (fun b o hb e=>eb b o hb e) f0 f1 f3 f4 f5⟩
 self:=fun _ _ _ _ _ st h=>wpAny_pyIter_listiter st h
theorem BP{K:PySem.W.Frag}(a it:Addr):Turn P w K tg (Itt K a) [it] it (fun i h=>h.IsTupleIter it a i) where
 mem:=by simp
 obj:=fun i h st b hb=>by
  have e:b=it:=by simpa using hb
  subst e;obtain⟨o,e,c,d⟩:=st
  exact⟨o,e,fun v z=>by rw[d]at z;cases z⟩
 keep:=fun i h h' st k=>st.at fun o e=>k it (by simp) o e
 item:=by
  intro X hP hw hK hc i pins s σ H E I hf st hg;subst hP hw hK;obtain⟨xs,x,hq,hx⟩:=hg;obtain⟨its,rv,p,hz⟩:=I.tuple hq;obtain⟨u,hu,ru⟩:=rv.get hx;obtain⟨f0,f1,f2,f3,f4,f5⟩:=hf it (by simp)
  refine wpAny_pyNext_tuple_item st (show s.heap.IsTuple a its.toArray from p) (x:=u) (by simpa using hu) fun h' st' sb=>?_
  have I1:Inv X pins σ H { s with heap:=h' }:=I.turned (t':=s.toks) (fun b o hb e=>(sb.2 b hb).trans e) f0 f1 f3 f4 f5
  obtain⟨o,e,c,d⟩:=id st'
  exact⟨u,rfl,Cb (s:={ s with heap:=h' }) e c d (by decide) ⟨x,H,I1,ru,⟨rfl,fun ys hy=>by rw[I.Dh hy hq];exact hx⟩,st',fun b hb=>(hf b hb).1⟩⟩
 done:=by
  intro X hP hw hK hc i pins s σ H E I hf st hg;subst hP hw hK;obtain⟨xs,hq,hx⟩:=hg;obtain⟨its,rv,p,hz⟩:=I.tuple hq;obtain⟨f0,f1,f2,f3,f4,f5⟩:=hf it (by simp);have hl:=rv.length
  exact wpAny_pyNext_tuple_end (I.ok.hd hc) st (show s.heap.IsTuple a its.toArray from p) (by simp;omega) fun h' eb=>⟨rfl,I.turned (t':=s.toks) (fun b o hb e=>eb b o hb e) f0 f1 f3 f4 f5⟩
 self:=fun _ _ _ _ _ st h=>wpAny_pyIter_tupleiter st h
theorem BD{K:PySem.W.Frag}(it:Addr)(lo:Int)(n:Nat):Turn P w K tg (Itr lo n) [it] it (fun i h=>IsRangeIter h it (lo+(i:Nat)*1) ((n:Int) - (i:Nat)) 1) where
 mem:=by simp
 obj:=fun i h st b hb=>by
  have e:b=it:=by simpa using hb
  subst e
  exact⟨_,st,fun v z=>by
   have z':Data.fields _=Data.cell v:=z
   cases z'⟩
 keep:=fun i h h' st k=>k it (by simp) _ st
 item:=by
  intro X hP hw hK hc i pins s σ H E I hf st hg;subst hP hw hK;obtain⟨f0,f1,f2,f3,f4,f5⟩:=hf it (by simp);have W:=Walks.range (prog:=X.prog) (w:=X.w) (I.ok.hd hc) it lo 1 n
  refine W.item i s _ _ hg st fun v h' tk hv st' kk=>?_
  obtain⟨t,rfl⟩:=hv
  have I1:Inv X pins σ H { s with heap:=h',toks:=tk }:=I.turned (fun b o hb e=>kk b o (by simpa using hb) e) f0 f1 f3 f4 f5
  refine⟨_,rfl,Cb (s:={ s with heap:=h',toks:=tk }) (n:="range_iterator") st' rfl rfl (by decide) ⟨.int (lo+i),H,I1,⟨t,?_⟩,⟨rfl,rfl⟩,st',fun b hb=>(hf b hb).1⟩⟩
  rw[Int.mul_one]
 done:=by
  intro X hP hw hK hc i pins s σ H E I hf st hg;subst hP hw hK;obtain⟨f0,f1,f2,f3,f4,f5⟩:=hf it (by simp)
  exact wpAny_pyNext_range_end (I.ok.hd hc) st (by have:n<=i:=hg;omega) fun h' eb=>⟨rfl,I.turned (t':=s.toks) (fun b o hb e=>eb b o hb e) f0 f1 f3 f4 f5⟩
 self:=fun _ _ _ _ _ st h=>wpAny_pyIter_rangeiter st h
section
variable{X:Cx}{tg:Expr}
def Ah(K:PySem.W.Frag)(tl:TE):TI:=fun σ H R=>tl σ H fun x H1=>∃ a,x=.ref a /\ (∃ xs,SqL K H1 a xs) /\ R (Itl K a) H1
def Kv(K:PySem.W.Frag)(tl:TE):TI:=fun σ H R=>tl σ H fun x H1=>∃ a,x=.ref a /\ (∃ xs,SqT K H1 a xs) /\ R (Itt K a) H1
theorem IY(hl:PE X l tl):PI X tg l (Ah X.K tl):=by
 intro pins s σ H R I h
 refine thn (hl pins s σ H _ I h) fun v s1 ⟨x,H1,I1,r1,q1⟩=>?_
 obtain⟨a,e,⟨xs,hq⟩,q⟩:=q1;subst e;cases r1;obtain⟨its,rv,p,hz⟩:=I1.list hq;refine wpAny_pyIter_list p.isList ?_
 refine⟨s1.heap.objs.size,[s1.heap.objs.size],_,_,H1,rfl,I1.kept (t':=s1.toks) fun b o e=>Heap.get?_push_of_some _ e,Dl a _,⟨_,Heap.get?_push_size _ rfl,rfl,rfl⟩,fun b hb=>?_,q⟩
 have e:b=s1.heap.objs.size:=by simpa using hb
 subst e;exact I1.Dw (Nat.le_refl _) (I1.hok.fresh (Nat.le_refl _))
theorem Mm(hl:PE X l tl):PI X tg l (Kv X.K tl):=by
 intro pins s σ H R I h
 refine thn (hl pins s σ H _ I h) fun v s1 ⟨x,H1,I1,r1,q1⟩=>?_
 obtain⟨a,e,⟨xs,hq⟩,q⟩:=q1;subst e;cases r1;obtain⟨its,rv,p,hz⟩:=I1.tuple hq;refine wpAny_pyIter_tuple (show s1.heap.IsTuple a its.toArray from p) ?_
 refine⟨s1.heap.objs.size,[s1.heap.objs.size],_,_,H1,rfl,I1.kept (t':=s1.toks) fun b o e=>Heap.get?_push_of_some _ e,BP a _,⟨_,Heap.get?_push_size _ rfl,rfl,rfl⟩,fun b hb=>?_,q⟩
 have e:b=s1.heap.objs.size:=by simpa using hb
 subst e;exact I1.Dw (Nat.le_refl _) (I1.hok.fresh (Nat.le_refl _))
theorem FE{pins:List (Addr×Obj)}{σ:St}{H:Hp}{s:Shared}{R:It->Hp->Prop}{E:Value->Shared->Prop}{lo hi:Int}{t u v:Tok}{tk:Nat}(I:Inv X pins σ H s)(h1:-(2 ^ 62)<=lo)(h2:lo<2 ^ 62)(h3:-(2 ^ 62)<=hi)(h4:hi<2 ^ 62)
  (q:R (Itr lo (hi - lo).toNat) H):wpAny (model X.prog X.w) X.A (pyIter (.ref s.heap.objs.size)) (PIE X pins σ tg R) E { s with heap:=s.heap.push { cls:=.type "range",data:=.fields #[.int lo t,.int hi u,.int 1 v] },toks:=tk }:=by
 refine wpAny_pyIter_range (IsRange.new ..) (small_one h1 h2 h3 h4) ?_
 have I1:Inv X pins σ H { s with heap:=s.heap.push { cls:=.type "range",data:=.fields #[.int lo t,.int hi u,.int 1 v] },toks:=tk }:=I.kept fun b o e=>Heap.get?_push_of_some _ e
 refine⟨(s.heap.push { cls:=.type "range",data:=.fields #[.int lo t,.int hi u,.int 1 v] }).objs.size,[(s.heap.push { cls:=.type "range",data:=.fields #[.int lo t,.int hi u,.int 1 v] }).objs.size],_,_,H,rfl,
  I1.kept (t':=tk) fun b o e=>Heap.get?_push_of_some _ e,BD _ lo (hi - lo).toNat,?_,fun b hb=>?_,q⟩
 . have e1:lo+((0:Nat):Int)*1=lo:=by simp
   have e2:(((hi - lo).toNat:Nat):Int) - ((0:Nat):Int)=Builtin.Range.rangeSize lo hi 1:=by rw[rangeSize_one];split<;>omega
   show IsRangeIter _ _ (lo+((0:Nat):Int)*1) ((((hi - lo).toNat:Nat):Int) - ((0:Nat):Int)) 1;rw[e1,e2];exact Heap.get?_push_size _ rfl
 . have e:b=(s.heap.push { cls:=.type "range",data:=.fields #[.int lo t,.int hi u,.int 1 v] }).objs.size:=by simpa using hb
   subst e;exact I1.Dw (Nat.le_refl _) (I1.hok.fresh (Nat.le_refl _))
def Cv(ta:TA):TI:=fun σ H R=>ta σ H fun vs H1=>∃ j:Int,vs=[.int j] /\ -(2 ^ 62)<=j /\ j<2 ^ 62 /\ R (Itr 0 j.toNat) H1
theorem DN{a:Expr}{ta:TA}{p pos:Pos}(hg:Gl X "range")(hm:X.mg "range" = none)(ha:PA X [a] ta)(hs:starEach [a] X.env=[(false,eval a X.env)]:=by rfl):PI X tg (.Call (.Name "range" p) [a] [] pos) (Cv ta):=by
 intro pins s σ H R I h;refine Call_ (wJ I hg hm boot_range (PyProof.Rows.callWith_type1 (thn (ha pos pins s σ H _ I h) fun us s1 ⟨vs,H1,I1,r1,q1⟩=>?_) hs rfl));obtain⟨j,e,q1,q2,q⟩:=q1;subst e
 cases r1 with
 | cons r rr=>
   cases rr;obtain⟨t,rfl⟩:=r;exact call_range_1 (FE I1 (by omega) (by omega) q1 q2 (by simpa using q))
def F4(wi:TI)(g:TG)(tb:TS):TS:=fun D σ H=>wi σ H fun J H1=>∃ W:Nat->Nat->St->Hp->Prop,(∃ m,W 0 m σ H1) /\ ∀ i m σ H,W i m σ H ->
 (J.stop i H /\ D.nx σ H) \/ (J.go i H /\ ∃ N:St->Hp->Prop,(∀ σ' H',N σ' H'->∃ m',m'<m /\ W (i+1) m' σ' H') /\ ∀ x H',J.yld i H x H'->g x σ H' fun σ2 H2=>tb { D with nx:=N,ct:=N,bk:=D.nx } σ2 H2)
def zl(fp:List Addr)(h:Heap):List (Addr×Obj):=fp.filterMap fun b=>(h.get? b).map fun o=>(b,o)
theorem eX{h:Heap}(hb:b∈fp)(e:h.get? b=some o):(b,o)∈zl fp h:=List.mem_filterMap.mpr ⟨b,hb,by rw[e];rfl⟩
theorem En{h:Heap}{p:Addr×Obj}(hp:p∈zl fp h):p.1∈fp /\ h.get? p.1=some p.2:=by
 obtain⟨b,hb,e⟩:=List.mem_filterMap.mp hp
 cases q:h.get? b with
 |none=>rw[q]at e;cases e
 | some o=>
   rw[q]at e
   have e':(b,o)=p:=Option.some.inj e
   subst e'
   exact⟨hb,q⟩
theorem Inv.pinned{pins:List (Addr×Obj)}{s:Shared}(I:Inv X pins σ H s)(hf:∀ b∈fp,pQ X pins H b)(ho:∀ b∈fp,∃ o,s.heap.get? b=some o /\ ∀ v,o.data≠.cell v):Inv X (pins++zl fp s.heap) σ H s:=
 I.Cs fun p hp=>(List.mem_append.mp hp).elim (fun z=>I.pin p (List.mem_append_right _ z)) fun z=>by
  obtain⟨hb,e⟩:=En z;obtain⟨f0,f1,f2,_⟩:=hf p.1 hb;obtain⟨o,e',d⟩:=ho p.1 hb;rw[e]at e';cases e'
  exact⟨e,f0,f1,f2,d⟩
theorem Inv.kB{pins pl:List (Addr×Obj)}(I:Inv X (pins++pl) σ H s):Inv X pins σ H s:=I.Cs fun p hp=>I.pin p (List.mem_append_right _ (List.mem_append_left _ hp))
theorem La(hp:PassesOwn (model X.prog X.w) X.A X.env X.xe)(hc:X.calm=true)(hi:PI X tg iter wi)(hg:PG X tg g)(hb:PSs X body tb)
  (hs:∀ x,foldedSetIterable iter X.env x=pure x:=by intro _;rfl):PS X (.For tg iter body [] pos) (F4 wi g tb):=by
 intro pins s σ H D I h;refine wpAny_For (thn (hi pins s σ H _ I h) fun v s1 h1=>thn h1 fun itv s2 h2=>?_) hs;obtain⟨it,fp,tn,J,H2,e,I2,T,st2,f2,W,⟨m0,w0⟩,turn⟩:=h2;subst e
 have stat:∀{H':Hp},(∀ b∈fp,H' b=none)->∀ b∈fp,pQ X pins H' b:=fun hn b hb=>⟨hn b hb,(f2 b hb).2⟩
 refine codeAny_forLoop_any (fun n s'=>∃ i σ' H',Inv X pins σ' H' s' /\ tn i s'.heap /\ (∀ b∈fp,H' b=none) /\ W i n σ' H') ?_ m0 ⟨0,σ,H2,I2,st2,fun b hb=>(f2 b hb).1,w0⟩
 rintro n s3 ⟨i,σ3,H3,I3,st3,fr3,w3⟩
 rcases turn i n σ3 H3 w3 with⟨stop,qn⟩|⟨go,N,hN,step⟩
 . refine wpAny_passesOwn hp (thn (T.done X rfl rfl rfl hc i pins s3 σ3 H3 X.xe I3 (stat fr3) st3 stop) fun r s4 ⟨hr,I4⟩=>?_);subst hr;exact wpAny_execs_nil ⟨σ3,H3,I4,qn⟩
 . refine wpAny_passesOwn hp (thn (T.item X rfl rfl rfl hc i pins s3 σ3 H3 X.xe I3 (stat fr3) st3 go) fun r s4 ⟨u,hr,h4⟩=>?_);subst hr;refine wpAny_passesOwn hp (thn h4 fun _ s5 ⟨x,H5,I5,r5,y5,st5,fr5⟩=>?_)
   have I5':=I5.pinned (stat fr5) (T.obj _ _ st5)
   refine wpAny_passesOwn hp (thn (hg _ s5 σ3 H5 x u _ I5' r5 (step x H5 y5)) fun _ s6 ⟨σ6,H6,I6,q6⟩=>?_);refine wpAny_passesOwn hp (thn (hb _ s6 σ6 H6 _ I6 q6) fun f s7 q7=>?_)
   have again:∀{σ7:St} {H7:Hp},Inv X (pins++zl fp s5.heap) σ7 H7 s7->N σ7 H7->∃ m,m<n /\ ∃ i σ' H',Inv X pins σ' H' s7 /\ tn i s7.heap /\ (∀ b∈fp,H' b=none) /\ W i m σ' H':=fun {σ7 H7} I7 n7=>by
    obtain⟨m',hm,w7⟩:=hN σ7 H7 n7
    refine⟨m',hm,i+1,σ7,H7,I7.kB,T.keep _ _ _ st5 fun b hb o e=>(I7.pin (b,o) (List.mem_append_right _ (List.mem_append_right _ (eX hb e)))).1,fun b hb=>?_,w7⟩
    obtain⟨o,e,d⟩:=T.obj _ _ st5 b hb
    exact(I7.pin (b,o) (List.mem_append_right _ (List.mem_append_right _ (eX hb e)))).2.1
   cases f with
   |next=>obtain⟨σ7,H7,I7,n7⟩:=q7;exact again I7 n7
   |cont=>obtain⟨σ7,H7,I7,n7⟩:=q7;exact again I7 n7
   |brk=>obtain⟨σ7,H7,I7,q7⟩:=q7;exact⟨σ7,H7,I7.kB,q7⟩
   |ret v=>obtain⟨x7,σ7,H7,I7,r7,q7⟩:=q7;exact⟨x7,σ7,H7,I7.kB,r7,q7⟩
end
theorem FO{K:PySem.W.Frag}{a:Addr}{xs:List V}{g:TG}{tb:TS}{D:Ends}{σ:St}{H:Hp}(Pv:Nat->St->Hp->Prop)(h0:Pv 0 σ H)(hl:∀ i σ H,i<=xs.length->Pv i σ H->SqL K H a xs)
  (hs:∀ i x σ H,xs[i]?=some x->Pv i σ H->g x σ H fun σ2 H2=>tb { D with nx:=Pv (i+1),ct:=Pv (i+1),bk:=D.nx } σ2 H2) (hd:∀ σ H,Pv xs.length σ H->D.nx σ H):
  ∃ W:Nat->Nat->St->Hp->Prop,(∃ m,W 0 m σ H) /\ ∀ i m σ H,W i m σ H ->
    ((Itl K a).stop i H /\ D.nx σ H) \/ ((Itl K a).go i H /\ ∃ N:St->Hp->Prop,(∀ σ' H',N σ' H'->∃ m',m'<m /\ W (i+1) m' σ' H') /\ ∀ x H',(Itl K a).yld i H x H'->g x σ H' fun σ2 H2=>tb { D with nx:=N,ct:=N,bk:=D.nx } σ2 H2):=by
 refine⟨fun i m σ H=>m=xs.length - i /\ i<=xs.length /\ Pv i σ H,⟨xs.length,by simp,Nat.zero_le _,h0⟩,?_⟩
 rintro i m σ H ⟨rfl,hi,p⟩
 have q:=hl i σ H hi p
 by_cases hlt:i<xs.length
 . refine .inr ⟨⟨xs,xs[i],q,by simp[hlt]⟩,Pv (i+1),fun σ' H' p'=>⟨xs.length - (i+1),by omega,rfl,hlt,p'⟩,fun x H' y=>?_⟩;obtain⟨e,y⟩:=y;subst e;exact hs i x σ _ (y xs q) p
 . have e:i=xs.length:=by omega
   subst e;exact .inl ⟨⟨xs,q,Nat.le_refl _⟩,hd σ H p⟩
theorem Dv{lo:Int}{n:Nat}{g:TG}{tb:TS}{D:Ends}{σ:St}{H:Hp}(Pv:Nat->St->Hp->Prop)(h0:Pv 0 σ H)
  (hs:∀ i σ H,i<n->Pv i σ H->g (.int (lo+i)) σ H fun σ2 H2=>tb { D with nx:=Pv (i+1),ct:=Pv (i+1),bk:=D.nx } σ2 H2) (hd:∀ σ H,Pv n σ H->D.nx σ H):
  ∃ W:Nat->Nat->St->Hp->Prop,(∃ m,W 0 m σ H) /\ ∀ i m σ H,W i m σ H ->
    ((Itr lo n).stop i H /\ D.nx σ H) \/ ((Itr lo n).go i H /\ ∃ N:St->Hp->Prop,(∀ σ' H',N σ' H'->∃ m',m'<m /\ W (i+1) m' σ' H') /\ ∀ x H',(Itr lo n).yld i H x H'->g x σ H' fun σ2 H2=>tb { D with nx:=N,ct:=N,bk:=D.nx } σ2 H2):=by
 refine⟨fun i m σ H=>m=n - i /\ i<=n /\ Pv i σ H,⟨n,by simp,Nat.zero_le _,h0⟩,?_⟩
 rintro i m σ H ⟨rfl,hi,p⟩
 by_cases hlt:i<n
 . refine .inr ⟨hlt,Pv (i+1),fun σ' H' p'=>⟨n - (i+1),by omega,rfl,hlt,p'⟩,fun x H' y=>?_⟩;obtain⟨e,y⟩:=y;subst e y;exact hs i σ _ hlt p
 . have e:i=n:=by omega
   subst e;exact .inl ⟨Nat.le_refl _,hd σ H p⟩
abbrev R2:=V->V->Hp->VK->Prop
def OpR(X:Cx)(f:Value->Value->Sem Value)(r:R2):Prop:=
 ∀(pins:List (Addr×Obj)) (s:Shared) (σ:St) (H:Hp) (x y:V) (v u:Value) (Q:VK),Inv X pins σ H s->RelV x v->RelV y u->r x y H Q ->
   wpAny (model X.prog X.w) X.A (f v u) (EP X pins σ Q) X.xe s
def UnR(X:Cx)(f:Value->Sem Value)(r:V->Hp->VK->Prop):Prop:=
 ∀(pins:List (Addr×Obj)) (s:Shared) (σ:St) (H:Hp) (x:V) (v:Value) (Q:VK),Inv X pins σ H s->RelV x v->r x H Q ->
   wpAny (model X.prog X.w) X.A (f v) (EP X pins σ Q) X.xe s
def nZ(X:Cx)(f:Value)(r:List V->Hp->VK->Prop):Prop:=
 ∀(pins:List (Addr×Obj)) (s:Shared) (σ:St) (H:Hp) (xs:List V) (us:List Value) (Q:VK),Inv X pins σ H s->Vals xs us->r xs H Q ->
   wpAny (model X.prog X.w) X.A (call f us) (EP X pins σ Q) X.xe s
def Oq(X:Cx)(r:V->Hp->(Bool->Hp->Prop)->Prop):Prop:=
 ∀(pins:List (Addr×Obj)) (s:Shared) (σ:St) (H:Hp) (x:V) (v:Value) (Q:Bool->Hp->Prop),Inv X pins σ H s->RelV x v->r x H Q ->
   wpAny (model X.prog X.w) X.A (truthy v) (TP X pins σ Q) X.xe s
def tOp(r:R2)(ta tb:TE):TE:=fun σ H Q=>ta σ H fun x H1=>tb σ H1 fun y H2=>r x y H2 Q
def tUn(r:V->Hp->VK->Prop)(ta:TE):TE:=fun σ H Q=>ta σ H fun x H1=>r x H1 Q
def rI(C:Int->Int->Prop)(g:Int->Int->V):R2:=fun x y H Q=>∃ i j,x=.int i /\ y=.int j /\ C i j /\ Q (g i j) H
def rI0(g:Int->Int->V):R2:=fun x y H Q=>∃ i j,x=.int i /\ y=.int j /\ Q (g i j) H
def rU(g:Int->V):V->Hp->VK->Prop:=fun x H Q=>∃ i,x=.int i /\ Q (g i) H
section
variable{X:Cx}{a b c:Expr}{ta tb tc:TE}{pos:Pos}
theorem Lz(ha:PE X a ta)(hb:PE X b tb){pins:List (Addr×Obj)}{R:V->V->Hp->Prop}(I:Inv X pins σ H s)
  (h:ta σ H fun x H1=>tb σ H1 fun y H2=>R x y H2) {Q:Value->Shared->Prop} {f:Value->Value->Sem Value}
  (hf:∀ v u s2 x y H2,Inv X pins σ H2 s2->RelV x v->RelV y u->R x y H2->wpAny (model X.prog X.w) X.A (f v u) Q X.xe s2):
  wpAny (model X.prog X.w) X.A (eval a X.env) (fun v s₁=>wpAny (model X.prog X.w) X.A (eval b X.env) (fun u s₂=>wpAny (model X.prog X.w) X.A (f v u) Q X.xe s₂) X.xe s₁) X.xe s:=by
 refine thn (ha pins s σ H _ I h) fun v s1 ⟨x,H1,I1,r1,q1⟩=>?_
 refine thn (hb pins s1 σ H1 _ I1 q1) fun u s2 ⟨y,H2,I2,r2,q2⟩=>?_
 exact hf v u s2 x y H2 I2 r1 r2 q2
theorem MS(ho:OpR X (binaryOp op) r)(ha:PE X a ta)(hb:PE X b tb):PE X (.BinOp a op b pos) (tOp r ta tb):=by
 intro pins s σ H Q I h;exact wpAny_BinOp (Lz ha hb I h fun v u s2 x y H2 I2 rx ry q=>ho pins s2 σ H2 x y v u Q I2 rx ry q)
theorem M6{r:V->Hp->VK->Prop}(ho:UnR X (unaryOp op) r)(ha:PE X a ta):PE X (.UnaryOp op a pos) (tUn r ta):=by
 intro pins s σ H Q I h;exact UnaryOp_ (thn (ha pins s σ H _ I h) fun v s1 ⟨x,H1,I1,r1,q1⟩=>ho pins s1 σ H1 x v Q I1 r1 q1)
theorem opI{f:Value->Value->Sem Value}{C:Int->Int->Prop}{g:Int->Int->Int}
  (rule:∀(i j:Int) (t u:Tok) (s:Shared) (Q:Value->Shared->Prop) (E:Value->Shared->Prop),C i j->Q (.int (g i j) s.toks) { s with toks:=s.toks+1 }->wpAny (model X.prog X.w) X.A (f (.int i t) (.int j u)) Q E s):
  OpR X f (rI C fun i j=>.int (g i j)):=by
 intro pins s σ H x y v u Q I rx ry h;obtain⟨i,j,rfl,rfl,hc,q⟩:=h;obtain⟨t,rfl⟩:=rx;obtain⟨t',rfl⟩:=ry;exact rule i j t t' s _ _ hc ⟨.int (g i j),H,I.tok _,⟨_,rfl⟩,q⟩
theorem MD{f:Value->Value->Sem Value}{g:Int->Int->Int}
  (rule:∀(i j:Int) (t u:Tok) (s:Shared) (Q:Value->Shared->Prop) (E:Value->Shared->Prop),Q (.int (g i j) s.toks) { s with toks:=s.toks+1 }->wpAny (model X.prog X.w) X.A (f (.int i t) (.int j u)) Q E s):
  OpR X f (rI0 fun i j=>.int (g i j)):=by
 intro pins s σ H x y v u Q I rx ry h;obtain⟨i,j,rfl,rfl,q⟩:=h;obtain⟨t,rfl⟩:=rx;obtain⟨t',rfl⟩:=ry;exact rule i j t t' s _ _ ⟨.int (g i j),H,I.tok _,⟨_,rfl⟩,q⟩
theorem Hh{f:Value->Value->Sem Value}{g:Int->Int->Bool}
  (rule:∀(i j:Int) (t u:Tok) (s:Shared) (Q:Value->Shared->Prop) (E:Value->Shared->Prop),Q (.bool (g i j)) s->wpAny (model X.prog X.w) X.A (f (.int i t) (.int j u)) Q E s):
  OpR X f (rI0 fun i j=>.bl (g i j)):=by
 intro pins s σ H x y v u Q I rx ry h;obtain⟨i,j,rfl,rfl,q⟩:=h;obtain⟨t,rfl⟩:=rx;obtain⟨t',rfl⟩:=ry;exact rule i j t t' s _ _ ⟨.bl (g i j),H,I,rfl,q⟩
def JY(i j:Int):Prop:=0<j /\ j<1073741824
def Ex(i j:Int):Prop:=(-(2 ^ 64)<i /\ i<2 ^ 64) \/ (-(2 ^ 64)<j /\ j<2 ^ 64)
theorem Ex.ok(h:Ex i j):IntMulOk i j:=by
 rcases h with⟨h1,h2⟩|⟨h1,h2⟩
 . exact .of_left (intBits_le_64 h1 h2)
 . exact .of_right (intBits_le_64 h1 h2)
theorem b9:OpR X (binaryOp .Add) (rI0 fun i j=>.int (i+j)):=MD fun _ _ _ _ _ _ _ q=>add_int q
theorem sJ:OpR X (binaryOp .Sub) (rI0 fun i j=>.int (i - j)):=MD fun _ _ _ _ _ _ _ q=>sub_int q
theorem ur:OpR X (binaryOp .Mult) (rI Ex fun i j=>.int (i*j)):=opI fun _ _ _ _ _ _ _ hc q=>mul_int q hc.ok
theorem bT:OpR X (binaryOp .FloorDiv) (rI JY fun i j=>.int (i/j)):=opI fun i j _ _ _ _ _ hc q=>by
 have h1:(0:Int)<j:=hc.1
 have h2:j<1073741824:=hc.2
 exact floordiv_int (by omega) (by rw[Int.fdiv_eq_ediv_of_nonneg i (by omega)];exact q) (.inl (PyProof.noPylong_small (by omega)))
theorem bV:OpR X (binaryOp .Mod) (rI (fun _ j=>0<j) fun i j=>.int (i%j)):=opI fun i j _ _ _ _ _ hc q=>by
 have h1:(0:Int)<j:=hc
 exact mod_int' (by omega) (by rw[Int.fmod_eq_emod_of_nonneg i (by omega)];exact q)
theorem unI{f:Value->Sem Value}{g:Int->Int}
  (rule:∀(i:Int) (t:Tok) (s:Shared) (Q:Value->Shared->Prop) (E:Value->Shared->Prop),Q (.int (g i) s.toks) { s with toks:=s.toks+1 }->wpAny (model X.prog X.w) X.A (f (.int i t)) Q E s):
  UnR X f (rU fun i=>.int (g i)):=by
 intro pins s σ H x v Q I rx h;obtain⟨i,rfl,q⟩:=h;obtain⟨t,rfl⟩:=rx;exact rule i t s _ _ ⟨.int (g i),H,I.tok _,⟨_,rfl⟩,q⟩
theorem kg:UnR X (unaryOp .USub) (rU fun i=>.int (-i)):=unI fun _ _ _ _ _ q=>neg_int q
end
def Mh:V->V->Bool
 |.non,.non=>true|.non,.int _=>true|.int _,.non=>true|.non,.bl _=>true|.bl _,.non=>true|.non,.str _=>true|.str _,.non=>true
 |.int _,.int _=>true|.bl _,.bl _=>true|.str _,.str _=>true|.byt _,.byt _=>true
 |.int _,.str _=>true|.str _,.int _=>true|.bl _,.str _=>true|.str _,.bl _=>true
 |_,_=>false
def rEq:R2:=fun x y H Q=>Mh x y=true /\ Q (.bl (decide (x=y))) H
def rNe:R2:=fun x y H Q=>Mh x y=true /\ Q (.bl (!decide (x=y))) H
theorem CV:decide (V.int i=V.int j)=(i==j):=by
 rw[Bool.eq_iff_iff];simp
theorem FV:decide (V.bl i=V.bl j)=(i==j):=by
 rw[Bool.eq_iff_iff];simp
theorem C5:decide (V.str i=V.str j)=(i==j):=by
 rw[Bool.eq_iff_iff];simp
theorem CI{i j:Array UInt8}:decide (V.byt i=V.byt j)=(i.toList==j.toList):=by
 rw[Bool.eq_iff_iff];cases i;cases j;simp
section
variable{X:Cx}{a b c:Expr}{ta tb tc:TE}{pos:Pos}
theorem cZ{pins:List (Addr×Obj)}(I:Inv X pins σ H s)(q:Q (.bl k) H)(e:k=k'):EP X pins σ Q (.bool k') s:=by
 subst e
 exact⟨.bl k,H,I,rfl,q⟩
theorem bw:OpR X (compareOp .Eq) rEq:=by
 intro pins s σ H x y v u Q I rx ry h;obtain⟨hs,q⟩:=h
 cases x with
 | non=>
   cases rx
   cases y with
   |non=>cases ry;exact PySem.EqNone.eq_none_none (cZ I q (by simp))
   |bl j=>cases ry;exact PySem.EqNone.eq_none_bool (cZ I q (by simp))
   |int j=>obtain⟨t',rfl⟩:=ry;exact PySem.EqNone.eq_none_int (cZ I q (by simp))
   |str j=>obtain⟨t',rfl⟩:=ry;exact PySem.EqNone.eq_none_str (cZ I q (by simp))
   |_=>exact absurd (show false=true from hs) Bool.false_ne_true
 | bl i=>
   cases rx
   cases y with
   |non=>cases ry;exact PySem.EqNone.eq_bool_none (cZ I q (by simp))
   |bl j=>cases ry;exact eq_bool (cZ I q FV)
   |str j=>obtain⟨t',rfl⟩:=ry;exact PySem.EqMixed.eq_bool_str (cZ I q (by simp))
   |_=>exact absurd (show false=true from hs) Bool.false_ne_true
 | int i=>
   obtain⟨t,rfl⟩:=rx
   cases y with
   |non=>cases ry;exact PySem.EqNone.eq_int_none (cZ I q (by simp))
   |int j=>obtain⟨t',rfl⟩:=ry;exact eq_int (cZ I q CV)
   |str j=>obtain⟨t',rfl⟩:=ry;exact PySem.EqMixed.eq_int_str (cZ I q (by simp))
   |_=>exact absurd (show false=true from hs) Bool.false_ne_true
 | str i=>
   obtain⟨t,rfl⟩:=rx
   cases y with
   |non=>cases ry;exact PySem.EqNone.eq_str_none (cZ I q (by simp))
   |bl j=>cases ry;exact PySem.EqMixed.eq_str_bool (cZ I q (by simp))
   |int j=>obtain⟨t',rfl⟩:=ry;exact PySem.EqMixed.eq_str_int (cZ I q (by simp))
   |str j=>obtain⟨t',rfl⟩:=ry;exact eq_str (cZ I q C5)
   |_=>exact absurd (show false=true from hs) Bool.false_ne_true
 | byt i=>
   obtain⟨t,rfl⟩:=rx
   cases y with
   |byt j=>obtain⟨t',rfl⟩:=ry;exact PySem.W.eq_bytes (cZ I q CI)
   |_=>exact absurd (show false=true from hs) Bool.false_ne_true
 |_=>cases y<;>exact absurd (show false=true from hs) Bool.false_ne_true
theorem vH:OpR X (compareOp .NotEq) rNe:=by
 intro pins s σ H x y v u Q I rx ry h;obtain⟨hs,q⟩:=h
 cases x with
 | non=>
   cases rx
   cases y with
   |non=>cases ry;exact PySem.EqNone.ne_none_none (cZ I q (by simp))
   |bl j=>cases ry;exact PySem.EqNone.ne_none_bool (cZ I q (by simp))
   |int j=>obtain⟨t',rfl⟩:=ry;exact PySem.EqNone.ne_none_int (cZ I q (by simp))
   |str j=>obtain⟨t',rfl⟩:=ry;exact PySem.EqNone.ne_none_str (cZ I q (by simp))
   |_=>exact absurd (show false=true from hs) Bool.false_ne_true
 | bl i=>
   cases rx
   cases y with
   |non=>cases ry;exact PySem.EqNone.ne_bool_none (cZ I q (by simp))
   |bl j=>cases ry;exact ne_bool (cZ I q (congrArg not FV))
   |str j=>obtain⟨t',rfl⟩:=ry;exact PySem.EqMixed.ne_bool_str (cZ I q (by simp))
   |_=>exact absurd (show false=true from hs) Bool.false_ne_true
 | int i=>
   obtain⟨t,rfl⟩:=rx
   cases y with
   |non=>cases ry;exact PySem.EqNone.ne_int_none (cZ I q (by simp))
   |int j=>obtain⟨t',rfl⟩:=ry;exact ne_int (cZ I q (congrArg not CV))
   |str j=>obtain⟨t',rfl⟩:=ry;exact PySem.EqMixed.ne_int_str (cZ I q (by simp))
   |_=>exact absurd (show false=true from hs) Bool.false_ne_true
 | str i=>
   obtain⟨t,rfl⟩:=rx
   cases y with
   |non=>cases ry;exact PySem.EqNone.ne_str_none (cZ I q (by simp))
   |bl j=>cases ry;exact PySem.EqMixed.ne_str_bool (cZ I q (by simp))
   |int j=>obtain⟨t',rfl⟩:=ry;exact PySem.EqMixed.ne_str_int (cZ I q (by simp))
   |str j=>obtain⟨t',rfl⟩:=ry;exact ne_str (cZ I q (congrArg not C5))
   |_=>exact absurd (show false=true from hs) Bool.false_ne_true
 | byt i=>
   obtain⟨t,rfl⟩:=rx
   cases y with
   |byt j=>obtain⟨t',rfl⟩:=ry;exact PySem.W.ne_bytes (cZ I q (congrArg not CI))
   |_=>exact absurd (show false=true from hs) Bool.false_ne_true
 |_=>cases y<;>exact absurd (show false=true from hs) Bool.false_ne_true
theorem lz:OpR X (compareOp .Lt) (rI0 fun i j=>.bl (decide (i<j))):=Hh fun _ _ _ _ _ _ _ q=>lt_int q
theorem nU:OpR X (compareOp .LtE) (rI0 fun i j=>.bl (decide (i<=j))):=Hh fun _ _ _ _ _ _ _ q=>le_int q
theorem CU:OpR X (compareOp .Gt) (rI0 fun i j=>.bl (decide (j<i))):=Hh fun _ _ _ _ _ _ _ q=>gt_int q
theorem C6:OpR X (compareOp .GtE) (rI0 fun i j=>.bl (decide (j<=i))):=Hh fun _ _ _ _ _ _ _ q=>ge_int q
theorem v8:OpR X (compareOp .Is) (fun x y H Q=>y=.non /\ Q (.bl (decide (x=.non))) H):=by
 intro pins s σ H x y v u Q I rx ry h;obtain⟨rfl,q⟩:=h;cases ry;refine is_none_gen (cZ I q ?_)
 cases x<;>first
  |(cases rx;rfl)
  |(obtain⟨t,rfl⟩:=rx;rfl)
theorem yn:OpR X (compareOp .IsNot) (fun x y H Q=>y=.non /\ Q (.bl (!decide (x=.non))) H):=by
 intro pins s σ H x y v u Q I rx ry h;obtain⟨rfl,q⟩:=h;cases ry;refine isnot_none_gen (cZ I q ?_)
 cases x<;>first
  |(cases rx;rfl)
  |(obtain⟨t,rfl⟩:=rx;rfl)
theorem mI(b:Expr)(h:op≠.In:=by decide)(h2:op≠.NotIn:=by decide):behindInMarks op b=false:=by
 have e1:(op==CmpOp.In)=false:=by cases op<;>first|rfl|exact absurd rfl h
 have e2:(op==CmpOp.NotIn)=false:=by cases op<;>first|rfl|exact absurd rfl h2
 cases b<;>simp[behindInMarks,e1,e2]
theorem Ij(ho:OpR X (compareOp op) r)(ha:PE X a ta)(hb:PE X b tb)(hm:behindInMarks op b=false):PE X (.Compare a [op] [b] pos) (tOp r ta tb):=by
 intro pins s σ H Q I h;exact wpAny_Compare1 (Lz ha hb I h fun v u s2 x y H2 I2 rx ry q=>ho pins s2 σ H2 x y v u Q I2 rx ry q) hm
def xS(t:TE):TT:=fun σ H Q=>t σ H fun x H'=>∃ k,x=.bl k /\ Q k H'
theorem IH(ho:OpR X (compareOp op) r)(ha:PE X a ta)(hb:PE X b tb)(hm:behindInMarks op b=false):PT X (.Compare a [op] [b] pos) (xS (tOp r ta tb)):=by
 intro pins s σ H Q I h
 refine wpAny_isTrue_Compare1 (thn (ha pins s σ H _ I h) fun v s1 ⟨x,H1,I1,r1,q1⟩=>thn (hb pins s1 σ H1 _ I1 q1) fun u s2 ⟨y,H2,I2,r2,q2⟩=>
  thn (ho pins s2 σ H2 x y v u _ I2 r1 r2 q2) fun c s3 ⟨z,H3,I3,r3,k,e,q3⟩=>?_) hm
 subst e;cases r3;exact wpAny_truthy_bool ⟨H3,I3,q3⟩
def wo(r r':R2)(ta tb tc:TE):TE:=fun σ H Q=>ta σ H fun x H1=>tb σ H1 fun y H2=>r x y H2 fun z H3=>∃ k,z=.bl k /\
 (if k=true then tc σ H3 fun w' H4=>r' y w' H4 Q else Q (.bl false) H3)
theorem Et(ho:OpR X (compareOp op) r)(ho':OpR X (compareOp op') r')(ha:PE X a ta)(hb:PE X b tb)(hc:PE X c tc)
  (hm:lastMarks [op,op'] [b,c]=false:=by with_unfolding_all rfl):PE X (.Compare a [op,op'] [b,c] pos) (wo r r' ta tb tc):=by
 intro pins s σ H Q I h
 refine Compare_chain (thn (ha pins s σ H _ I h) fun v s1 ⟨x,H1,I1,r1,q1⟩=>chain_link (thn (hb pins s1 σ H1 _ I1 q1) fun u s2 ⟨y,H2,I2,r2,q2⟩=>
  thn (ho pins s2 σ H2 x y v u _ I2 r1 r2 q2) fun d s3 ⟨z,H3,I3,r3,k,e,q3⟩=>?_)) hm
 subst e;cases r3;refine wpAny_truthy_bool ?_
 cases k with
 |false=>exact ite_ff ⟨.bl false,H3,I3,rfl,q3⟩
 |true=>exact ite_tt (chain_last (thn (hc pins s3 σ H3 _ I3 q3) fun w' s4 ⟨z',H4,I4,r4,q4⟩=>ho' pins s4 σ H4 y z' u w' Q I4 r2 r4 q4))
theorem Gw(ho:OpR X (compareOp op) r)(ho':OpR X (compareOp op') r')(ha:PE X a ta)(hb:PE X b tb)(hc:PE X c tc)
  (hm:lastMarks [op,op'] [b,c]=false:=by with_unfolding_all rfl):PT X (.Compare a [op,op'] [b,c] pos) (xS (wo r r' ta tb tc)):=by
 intro pins s σ H Q I h
 refine isTrue_chain (thn (ha pins s σ H _ I h) fun v s1 ⟨x,H1,I1,r1,q1⟩=>test_link (thn (hb pins s1 σ H1 _ I1 q1) fun u s2 ⟨y,H2,I2,r2,q2⟩=>
  thn (ho pins s2 σ H2 x y v u _ I2 r1 r2 q2) fun d s3 ⟨z,H3,I3,r3,k,e,q3⟩=>?_)) hm
 subst e;cases r3;refine wpAny_truthy_bool ?_
 cases k with
 | false=>
   obtain⟨k',e',q'⟩:=q3
   cases e'
   exact ite_ff ⟨H3,I3,q'⟩
 | true=>
   refine ite_tt (test_last (thn (hc pins s3 σ H3 _ I3 q3) fun w' s4 ⟨z',H4,I4,r4,q4⟩=>thn (ho' pins s4 σ H4 y z' u w' _ I4 r2 r4 q4) fun d' s5 ⟨z2,H5,I5,r5,k2,e2,q5⟩=>?_));subst e2;cases r5;exact wpAny_truthy_bool ⟨H5,I5,q5⟩
def BW(K:PySem.W.Frag)(x:V)(H:Hp)(k:Bool):Prop:=
 match x with
 |.non=>k=false
 |.bl b=>k=b
 |.int i=>k=(i != 0)
 |.str y=>y.length<=sizeLine /\ k=((y.length:Int) != 0)
 |.byt y=>y.size<=sizeLine /\ k=((y.size:Int) != 0)
 |.ref p=>(∃ xs,SqL K H p xs /\ k=!xs.isEmpty) \/ (∃ xs,SqT K H p xs /\ k=!xs.isEmpty) \/ ∃ kvs,H p=some (.dK kvs) /\ k=!kvs.isEmpty
 |_=>False
theorem Ca{κ:Type}{kvs:List (κ×V)}{vs:List (κ×Value)}(r:KV kvs vs):(!vs.isEmpty)=!kvs.isEmpty:=by
 cases r<;>rfl
theorem v7{xs:List V}{its:List Value}(r:Vals xs its):(!its.toArray.isEmpty)=!xs.isEmpty:=by
 cases r<;>simp
theorem vT:(sizeLine:Nat)<2 ^ 63:=by rw[sizeLine_eq];decide
theorem KC:Oq X (fun x H Q=>∃ k,BW X.K x H k /\ Q k H):=by
 intro pins s σ H x v Q I rx h;obtain⟨k,e,q⟩:=h;have hl:=vT
 have hs:sizeLine=16777216:=sizeLine_eq
 cases x with
 | non=>
   cases rx
   have e':k=false:=e
   subst e';exact truthy_none ⟨H,I,q⟩
 | bl b=>
   cases rx
   have e':k=b:=e
   subst e';exact wpAny_truthy_bool ⟨H,I,q⟩
 | int i=>
   obtain⟨t,rfl⟩:=rx
   have e':k=(i != 0):=e
   subst e';exact PySem.P.truthy_int ⟨H,I,q⟩
 | str y=>
   obtain⟨t,rfl⟩:=rx
   obtain⟨hy,e'⟩:y.length<=sizeLine /\ k=((y.length:Int) != 0):=e
   subst e';exact PySem.P.truthy_str (by omega) ⟨H,I.tok _,q⟩
 | byt y=>
   obtain⟨t,rfl⟩:=rx
   obtain⟨hy,e'⟩:y.size<=sizeLine /\ k=((y.size:Int) != 0):=e
   subst e';exact PySem.W.truthy_bytes (by omega) ⟨H,I.tok _,q⟩
 | ref p=>
   cases rx
   have e':(∃ xs,SqL X.K H p xs /\ k=!xs.isEmpty) \/ (∃ xs,SqT X.K H p xs /\ k=!xs.isEmpty) \/ ∃ kvs,H p=some (.dK kvs) /\ k=!kvs.isEmpty:=e
   rcases e' with⟨xs,hx,e'⟩|⟨xs,hx,e'⟩|⟨kvs,hx,e'⟩
   . subst e';obtain⟨its,r,pl,hz⟩:=I.list hx;have hlen:=r.length;exact wpAny_truthy_list pl.isList (by simp only[List.size_toArray];omega) ⟨H,I.tok _,by rw[v7 r];exact q⟩
   . subst e';obtain⟨its,r,pl,hz⟩:=I.tuple hx;have hlen:=r.length;exact truthy_tuple pl (by simp only[List.size_toArray];omega) ⟨H,I.tok _,by rw[v7 r];exact q⟩
   . subst e'
     obtain⟨hz,hS,vs,r,m⟩:kvs.length<=sizeLine /\ (p==sysModules)=false /\ ∃ vs,KV kvs vs /\ s.heap.DictOf (gf X.prog X.w) p vs:=I.hok p _ hx
     have hlen:kvs.length=vs.length:=Paired.length r
     exact wpAny_truthy_dict hS m (by omega) ⟨H,I.tok _,by rw[Ca r];exact q⟩
 |_=>exact(show False from e).elim
theorem GH(ha:PE X a ta)(he:∀ whole,isTrue a X.env whole=(do let v <- whole;standAt a.pos;holding [v] (truthy v))):
  PT X a (fun σ H Q=>ta σ H fun x H'=>∃ k,BW X.K x H' k /\ Q k H'):=by
 intro pins s σ H Q I h;exact isTrue_plain (thn (ha pins s σ H _ I h) fun v s1 ⟨x,H1,I1,r1,q1⟩=>KC pins s1 σ H1 x v Q I1 r1 q1) (he _)
theorem vals1(r:Vals [x] us):∃ u,us=[u] /\ RelV x u:=by
 cases r with
 |cons r1 r2=>cases r2;exact⟨_,rfl,r1⟩
theorem yd:nZ X (.type "int") (fun xs H Q=>(∃ i,xs=[.int i] /\ Q (.int i) H) \/ ∃ k,xs=[.bl k] /\ Q (.int (if k then 1 else 0)) H):=by
 intro pins s σ H xs us Q I r h
 rcases h with⟨i,rfl,q⟩|⟨k,rfl,q⟩
 . obtain⟨u,rfl,t,rfl⟩:=vals1 r;exact call_int_int ⟨.int i,H,I,⟨_,rfl⟩,q⟩
 . obtain⟨u,rfl,r1⟩:=vals1 r;cases r1;exact call_int_bool ⟨.int (if k then 1 else 0),H,I.tok _,⟨_,rfl⟩,q⟩
theorem tm:nZ X (.type "str") (fun xs H Q=>∃ i,xs=[.int i] /\ i.natAbs.log2<1920 /\ Q (.str (toString i)) H):=by
 intro pins s σ H xs us Q I r h;obtain⟨i,rfl,hz,q⟩:=h;obtain⟨u,rfl,t,rfl⟩:=vals1 r;exact PySem.P.str_of_int hz ⟨.str _,H,I.tok _,⟨_,rfl⟩,q⟩
theorem EJ:nZ X (.builtin "ord") (fun xs H Q=>∃ x,xs=[.str x] /\ x.length=1 /\ Q (.int (x.cps.getD 0 0:Nat)) H):=by
 intro pins s σ H xs us Q I r h;obtain⟨x,rfl,hz,q⟩:=h;obtain⟨u,rfl,t,rfl⟩:=vals1 r;exact ord_of_one hz ⟨.int _,H,I.tok _,⟨_,rfl⟩,q⟩
end
structure BX(h:Heap)(x dx C:Addr)(mA:Str->Option Value):Prop where
 obj:h.get? x=some (PySem.W.instObj C dx)
 ns:h.Ns1 dx mA
 ne:dx≠x
theorem D3{h:Heap}{mA:Str->Option Value}(n:h.Ns1 dx mA):∃ od,h.get? dx=some od /\ ∀ name,PySem.W.lookIn name od=some (mA name):=by
 obtain⟨o,es,ep,ho,hd,hk,_,hm⟩:=n
 refine⟨o,ho,fun name=>?_⟩
 have e:=hm name;unfold nsFind findBy at e;rw[<- Array.find?_toList]at e;unfold PySem.W.lookIn;rw[hd];dsimp only;split
 . rename_i y q;rw[q]at e;exact congrArg some e
 . rename_i q;rw[q]at e
   have a:es.toList.any (·.refKey)=false:=by
    rw[List.any_eq_false];intro y hy;obtain⟨z,t,hkey⟩:=hk y (Array.mem_toList_iff.mp hy);simp[DictEntry.refKey,hkey]
   have a':¬ es.toList.any (·.refKey)=true:=by rw[a];exact Bool.false_ne_true
   rw[if_neg a'];exact congrArg some e
theorem BX.look{mA:Str->Option Value}(I:BX h x dx C mA):∃ od,PySem.W.InstAt h x (PySem.W.instObj C dx) C (some od) /\ ∀ name,PySem.W.lookIn name od=some (mA name):=
 let ⟨od,ho,hl⟩:=D3 I.ns
 ⟨od,⟨I.obj,rfl,rfl,ho⟩,hl⟩
section
variable{prog:Program}{w:World}{A:Around}{E:Value->Shared->Prop}{s:Shared}{K:PySem.W.Frag}{x dx C f:Addr}{mA:Str->Option Value}{name:Str}{v:Value}
theorem get_map{Q:Value->Shared->Prop}(X:K.In s.heap)(I:BX s.heap x dx C mA)(hg:PySem.W.plainGet K C name=true)(hh:PySem.W.hasDictIn K C=true)
  (ha:PySem.W.findIn K (.ref C) name=some none) (hv:mA name=some v) (hv':PySem.W.handedIn v=true) (h:Q v { s with toks:=s.toks+1 }):
  wpAny (model prog w) A (getAttr (.ref x) name expr) Q E s:=by
 obtain⟨od,J,hl⟩:=I.look;exact PySem.W.get_value X J (PySem.W.plainGet_of hg).1 (PySem.W.findObj_own hh ha rfl (by rw[hl,hv])) hv' h
theorem Es{pl:Sem Bool}{Q:Value×List Value->Shared->Prop}(X:K.In s.heap)(I:BX s.heap x dx C mA)(hg:PySem.W.plainGet K C name=true)
  (hf:PySem.W.findIn K (.ref C) name=some (some (.ref f))) (ht:PySem.W.isFn K (.ref f)=true) (hv:mA name=none) (h:Q (.ref f,[.ref x]) s):
  wpAny (model prog w) A (getMethod (.ref x) name pl) Q E s:=by
 obtain⟨od,J,hl⟩:=I.look;exact PySem.W.method_fn X J (PySem.W.plainGet_of hg).1 (PySem.W.plainGet_of hg).2 hf (beq_iff_eq.mp ht) (by show(PySem.W.lookIn name od).map (·.isSome)=some false;rw[hl,hv];rfl) h
theorem IV{ns:List Str}{Q:Unit->Shared->Prop}(X:K.In s.heap)(I:BX s.heap x dx C mA)
  (hs:PySem.W.findIn K (.ref C) "__setattr__" = some (some (.builtin "object.__setattr__"))) (hp:PySem.W.plainOver K C=true) (ht:PySem.W.takerIn K C name=some none) (hh:PySem.W.hasDictIn K C=true)
  (hw:PySem.Within mA ns) (hsz:ns.length<=sizeLine)
  (h:∀ h',BX h' x dx C (fun y=>if y=name then some v else mA y)->Heap.SameBut dx s.heap h'->Q () { s with heap:=h',toks:=s.toks+2 }):
  wpAny (model prog w) A (setAttr (.ref x) name v) Q E s:=by
 obtain⟨od,J,hl⟩:=I.look;refine PySem.W.set_plain X J hs (PySem.W.osa_open (s:={ s with toks:=s.toks+1 }) (r:=none) X J hp ht fun b=>?_);obtain⟨cd,hc,hd'⟩:=PySem.W.any_some hh
 have hx:s.heap.get? x=some ⟨.ref C,some dx,.plain,#[]⟩:=I.obj
 refine wpAny_bind (wpAny_pure (wpAny_bind (wpAny_bind (wpAny_loadPart hx (wpAny_bind (PySem.W.Looks.here (s:={ s with toks:=s.toks+1 }) (PySem.W.looks_clsIn X hc) ?_))))));rw[hd'];refine wpAny_pure (a:=some dx) (wpAny_bind (wpAny_pure (wpAny_bind ?_)))
 refine wpAny_nsSet1 (s:={ s with toks:=s.toks+1 }) I.ns fun h' hn2 hs2=>?_
 obtain⟨oD,esD,epD,hoD,hdD,hcD⟩:=hn2.count (PySem.Within.cons name v hw);refine wpAny_bind (wpAny_lookBehind hoD (by rw[hdD];exact pastItsLine_dict (Nat.le_trans hcD (by rw[List.length_cons];omega))) ?_);exact wpAny_pure (h _ ⟨(hs2.2 _ (Ne.symm I.ne)).trans I.obj,hn2,I.ne⟩ hs2)
theorem EV{R:Result->Shared->Prop}{kw:List (Str×Value)}(X:K.In s.heap)(hm:PySem.W.makesIn K C=true)
  (hi:PySem.W.findIn K (.ref C) "__init__" = some (some (.ref f))) (hf:PySem.W.typeIn K (.ref f)=some (.type "function"))
  (h:codeAny (model prog w) (A.under (.builtin "type.__call__" ⟨.ref C ::vs,kw⟩)) (.call (.ref f) ⟨.ref (s.heap.objs.size+1) ::vs,kw⟩) (PySem.W.InitBack (s.heap.objs.size+1) R)
    { s with heap:=(s.heap.push PySem.W.emptyDict).push (PySem.W.instObj C s.heap.objs.size) }):
  codeAny (model prog w) A (.call (.ref C) ⟨vs,kw⟩) R s:=by
 obtain⟨hh,g,d,t,os⟩:=s;exact PySem.W.make_core (PySem.W.makes_of X hm) (PySem.W.looks_findIn X hi) (fun self=>PySem.W.bind_fn X self hf) (.inl rfl) h
end
def kX(f:Str)(v:V):List (Str×V)->List (Str×V)
 |[]=>[(f,v)]
 |(g,x) ::r=>if g=f then(g,v) ::r else(g,x) ::kX f v r
theorem u7(f g:Str)(v:V):∀ fs:List (Str×V),(kX f v fs).lookup g=if g=f then some v else fs.lookup g
 | []=>by
   show List.lookup g [(f,v)]=_
   by_cases h:g=f
   . have hb:(g==f)=true:=beq_iff_eq.mpr h
     simp only[List.lookup,hb,if_pos h]
   . have hb:(g==f)=false:=beq_eq_false_iff_ne.mpr h
     simp only[List.lookup,hb,if_neg h]
 | (k,x) ::r=>by
   have ih:=u7 f g v r;rw[show kX f v ((k,x) ::r)=(if k=f then(k,v) ::r else(k,x) ::kX f v r) from rfl]
   by_cases hk:k=f
   . rw[if_pos hk]
     by_cases h:g=k
     . have hb:(g==k)=true:=beq_iff_eq.mpr h
       simp only[List.lookup,hb,if_pos (h.trans hk)]
     . have hb:(g==k)=false:=beq_eq_false_iff_ne.mpr h
       simp only[List.lookup,hb,if_neg (fun e:g=f=>h (e.trans hk.symm))]
   . rw[if_neg hk]
     by_cases h:g=k
     . have hb:(g==k)=true:=beq_iff_eq.mpr h
       simp only[List.lookup,hb,if_neg (fun e:g=f=>hk (h.symm.trans e))]
     . have hb:(g==k)=false:=beq_eq_false_iff_ne.mpr h
       simp only[List.lookup,hb];exact ih
theorem uE(f:Str)(v:V):∀ fs:List (Str×V),f∈(kX f v fs).map (·.1) /\ ∀ g,g∈fs.map (·.1)->g∈(kX f v fs).map (·.1)
 |[]=>⟨by simp[kX],fun g h=>by simp at h⟩
 | (k,x) ::r=>by
   obtain⟨i1,i2⟩:=uE f v r;rw[show kX f v ((k,x) ::r)=(if k=f then(k,v) ::r else(k,x) ::kX f v r) from rfl]
   by_cases hk:k=f
   . rw[if_pos hk];subst hk
     exact⟨by simp,fun g h=>by simpa using h⟩
   . rw[if_neg hk]
     refine⟨?_,fun g h=>?_⟩
     . rw[List.map_cons];exact List.mem_cons_of_mem _ i1
     . rw[List.map_cons]at h ⊢
       rcases List.mem_cons.mp h with e|e
       . exact List.mem_cons.mpr (.inl e)
       . exact List.mem_cons_of_mem _ (i2 g e)
theorem uV(f:Str)(v:V):∀ fs:List (Str×V),(kX f v fs).length<=fs.length+1
 |[]=>by simp[kX]
 | (k,x) ::r=>by
   have ih:=uV f v r;rw[show kX f v ((k,x) ::r)=(if k=f then(k,v) ::r else(k,x) ::kX f v r) from rfl]
   by_cases hk:k=f
   . rw[if_pos hk,List.length_cons,List.length_cons];omega
   . rw[if_neg hk,List.length_cons,List.length_cons];omega
theorem bz.some_of(r:bz (some v) o):∃ u,o=some u /\ RelV v u:=by
 cases o with
 |none=>exact(show False from r).elim
 |some u=>exact⟨u,rfl,r⟩
theorem bz.none_of(r:bz none o):o=none:=by
 cases o with
 |none=>rfl
 |some u=>exact(show False from r).elim
theorem Dy(r:RelV v u):PySem.W.handedIn u=true:=by
 cases v with
 |non=>cases(show u=Value.none from r);rfl
 |bl b=>cases(show u=Value.bool b from r);rfl
 |int i=>obtain⟨t,e⟩:=(show ∃ t,u=Value.int i t from r);cases e;rfl
 |str x=>obtain⟨t,e⟩:=(show ∃ t,u=Value.str x t from r);cases e;rfl
 |byt b=>obtain⟨t,e⟩:=(show ∃ t,u=Value.bytes b t from r);cases e;rfl
 |flt b=>obtain⟨t,e⟩:=(show ∃ t,u=Value.float b t from r);cases e;rfl
 |ref a=>cases(show u=Value.ref a from r);rfl
 |ty n=>cases(show u=Value.type n from r);rfl
section
variable{P:Program}{w:World}{H H':Hp}{h h':Heap}{a C dx:Addr}{fs fs':List (Str×V)}
theorem zc(hok:HOk P w H h)(e:H a=some (.ins C dx fs)):∃ mA,BX h a dx C mA /\ (∀ f,bz (fs.lookup f) (mA f)) /\ PySem.Within mA (fs.map (·.1)) /\ fs.length<=1000 /\ H dx=some (.own a):=by
 obtain⟨d,z,ne,ob,mA,n,r,q⟩:=(show gD P w H h a (.ins C dx fs) from hok a _ e)
 exact⟨mA,⟨ob,n,ne⟩,r,q,z,d⟩
end
structure Cls(K:PySem.W.Frag)(C:Addr):Prop where
 pg:PySem.W.plainGet K C Str.empty=true
 hd:PySem.W.hasDictIn K C=true
 po:PySem.W.plainOver K C=true
 sa:PySem.W.findIn K (.ref C) "__setattr__" = some (some (.builtin "object.__setattr__"))
theorem Cls.get{K:PySem.W.Frag}(c:Cls K C)(f:Str):PySem.W.plainGet K C f=true:=c.pg
def ng(K:PySem.W.Frag)(C:Addr)(f:Str):Prop:=PySem.W.findIn K (.ref C) f=some none
theorem ng.ML{K:PySem.W.Frag}(n:ng K C f):PySem.W.takerIn K C f=some none:=by
 unfold PySem.W.takerIn;rw[show PySem.W.findIn K (.ref C) f=some none from n];rfl
structure Meth(K:PySem.W.Frag)(C:Addr)(m:Str)(f:Addr):Prop where
 at_:PySem.W.findIn K (.ref C) m=some (some (.ref f))
 fn:PySem.W.isFn K (.ref f)=true
 kp:PySem.W.keepIn K (.ref f)=true
section
variable{X:Cx}{pins:List (Addr×Obj)}{σ:St}{H:Hp}{s:Shared}{a C dx:Addr}{fs:List (Str×V)}{f:Str}{v:V}{A:Around}{E:Value->Shared->Prop}
theorem B6{Q:Value->Shared->Prop}(I:Inv X pins σ H s)(e:H a=some (.ins C dx fs))(c:Cls X.K C)(n:ng X.K C f)(l:fs.lookup f=some v)
  (h:∀ u s',Inv X pins σ H s'->RelV v u->Q u s'):wpAny (model X.prog X.w) A (getAttr (.ref a) f b) Q E s:=by
 obtain⟨mA,O,r,_,_,_⟩:=zc I.hok e;obtain⟨u,hu,ru⟩:=bz.some_of (v:=v) (o:=mA f) (by rw[<- l];exact r f);exact get_map I.kIn O (c.get f) c.hd n hu (Dy ru) (h u _ (I.tok _) ru)
theorem xb{pl:Sem Bool}{Q:Value×List Value->Shared->Prop}(I:Inv X pins σ H s)(e:H a=some (.ins C dx fs))(c:Cls X.K C)(k:Meth X.K C m g)(l:fs.lookup m=none)
  (h:Q (.ref g,[.ref a]) s):wpAny (model X.prog X.w) A (getMethod (.ref a) m pl) Q E s:=by
 obtain⟨mA,O,r,_,_,_⟩:=zc I.hok e
 have hn:mA m=none:=bz.none_of (by rw[<- l];exact r m)
 exact Es I.kIn O (c.get m) k.at_ k.fn hn h
theorem Bi{Q:Unit->Shared->Prop}(I:Inv X pins σ H s)(e:H a=some (.ins C dx fs))(c:Cls X.K C)(n:ng X.K C f)(hl:fs.length<1000)(ry:RelV y u)
  (h:∀ s',Inv X pins σ (upd H a (.ins C dx (kX f y fs))) s'->Q () s'):wpAny (model X.prog X.w) A (setAttr (.ref a) f u) Q E s:=by
 obtain⟨mA,O,r,wi,_,ho⟩:=zc I.hok e
 have hz:(fs.map (·.1)).length<=sizeLine:=by rw[List.length_map,sizeLine_eq];omega
 refine IV I.kIn O c.sa c.po n.ML c.hd wi hz fun h' O' sb=>h _ ?_
 have hd:∃ o,h'.get? dx=some o:=let ⟨o,_,_,e',_⟩:=O'.ns;⟨o,e'⟩
 refine I.write (x:=a) (e:=dx) (by rw[e];exact True.intro) (.inr ho) (fun b q hb z=>(sb.2 b hb).trans z) hd ?_
 refine⟨by rw[bP O.ne];exact ho,?_,O.ne,O'.obj,_,O'.ns,fun g=>?_,fun g hg=>?_⟩
 . have:=uV f y fs;omega
 . show bz ((kX f y fs).lookup g) (if g=f then some u else mA g);rw[u7]
   by_cases q:g=f
   . rw[if_pos q,if_pos q];exact ry
   . rw[if_neg q,if_neg q];exact r g
 . by_cases q:g=f
   . rw[q];exact(uE f y fs).1
   . refine(uE f y fs).2 g (wi g fun z=>hg ?_)
     show(if g=f then some u else mA g)=none
     rw[if_neg q];exact z
theorem Inv.made(I:Inv X pins σ H s):Inv X pins σ (upd (upd H s.heap.objs.size (.own (s.heap.objs.size+1))) (s.heap.objs.size+1) (.ins C s.heap.objs.size []))
  { s with heap:=(s.heap.push PySem.W.emptyDict).push (PySem.W.instObj C s.heap.objs.size) }:=by
 have e1:(s.heap.push PySem.W.emptyDict).get? s.heap.objs.size=some PySem.W.emptyDict:=Heap.get?_push_size s.heap rfl
 have e2:((s.heap.push PySem.W.emptyDict).push (PySem.W.instObj C s.heap.objs.size)).get? (s.heap.objs.size+1)=some (PySem.W.instObj C s.heap.objs.size):=by
  have:=Heap.get?_push_size (s.heap.push PySem.W.emptyDict) (o:=PySem.W.instObj C s.heap.objs.size) rfl
  rwa [Heap.size_push]at this
 have e3:(s.heap.push PySem.W.emptyDict).Ns s.heap.objs.size (fun _=>none):=⟨PySem.W.emptyDict,#[],_,e1,rfl,(fun e he=>absurd he (by simp)),fun _=>rfl⟩
 have I1:=I.laid (a:=s.heap.objs.size) (o:=.own (s.heap.objs.size+1)) (h':=s.heap.push PySem.W.emptyDict) (t':=s.toks) (fun b u q=>Heap.get?_push_of_some _ q) (Nat.le_refl _) ⟨_,e1⟩;refine I1.laid (a:=s.heap.objs.size+1) (o:=.ins C s.heap.objs.size []) (t':=s.toks) (fun b u q=>Heap.get?_push_of_some _ q) (Nat.le_of_eq (Heap.size_push _ _)) ?_
 have ne:s.heap.objs.size≠s.heap.objs.size+1:=Nat.ne_of_lt (Nat.lt_succ_self _)
 refine⟨by rw[bP ne,bL],Nat.zero_le _,ne,e2,fun _=>none,(Heap.Ns1.of_empty e3).at fun o q=>Heap.get?_push_of_some _ q,fun _=>True.intro,fun y hy=>absurd rfl hy⟩
theorem Im{Q:Value->Shared->Prop}(hb:attributeBase e f env (eval e env)=eval e env)
  (h:wpAny (model prog w) A (eval e env) (fun o s₁=>wpAny (model prog w) A (getAttr o f true) Q E s₁) E s):wpAny (model prog w) A (eval (.Attribute e f pos) env) Q E s:=
 Attribute_any_ h (by rw[arm_eval_Attribute,hb])
end
def K9(K:PySem.W.Frag)(ta:TE)(f:Str):TE:=fun σ H Q=>ta σ H fun x H1=>∃ a C dx fs v,x=.ref a /\ H1 a=some (.ins C dx fs) /\ Cls K C /\ ng K C f /\ fs.lookup f=some v /\ Q v H1
def KQ(K:PySem.W.Frag)(ta tv:TE)(f:Str):TS:=fun D σ H=>tv σ H fun y H1=>ta σ H1 fun x H2=>∃ a C dx fs,x=.ref a /\ H2 a=some (.ins C dx fs) /\ Cls K C /\ ng K C f /\ fs.length<1000 /\
 D.nx σ (upd H2 a (.ins C dx (kX f y fs)))
section
variable{X:Cx}{o e value:Expr}{f:Str}{pos pos' tpos:Pos}{ta tv:TE}
theorem Kz(he:PE X e ta)(hb:attributeBase e f X.env (eval e X.env)=eval e X.env):PE X (.Attribute e f pos) (K9 X.K ta f):=by
 intro pins s σ H Q I h;refine Im hb (thn (he pins s σ H _ I h) fun u s1 ⟨x,H1,I1,rx,a,C,dx,fs,v,ex,ea,c,n,l,q⟩=>?_);subst ex
 obtain rfl:u=Value.ref a:=rx
 exact B6 I1 ea c n l fun u' s2 I2 ru=>⟨v,H1,I2,ru,q⟩
theorem Mo(ha:PE X o ta)(hv:PE X value tv)(hs:swapsWith value (some (.Attribute o f pos')) pos.line X.env=pure false):PS X (.Assign [.Attribute o f pos'] value pos) (KQ X.K ta tv f):=by
 intro pins s σ H D I h;refine plainObj_wpAny_Assign_Attribute (thn (hv pins s σ H _ I h) fun u s1 ⟨y,H1,I1,ry,q⟩=>thn (ha pins s1 σ H1 _ I1 q) fun ov s2 ⟨x,H2,I2,rx,a,C,dx,fs,ex,ea,c,n,l,q2⟩=>?_) hs;subst ex
 obtain rfl:ov=Value.ref a:=rx
 exact Bi I2 ea c n l ry fun s3 I3=>⟨σ,_,I3,q2⟩
end
structure iK(k:Nat)(A:Around):Prop where
 hd:A.handled=none
 dp:A.depth+3*k+5<recursionLimit
 un:A.units+16*k+200<cLine
theorem iK.mono(r:iK k A)(h:j<=k):iK j A:=⟨r.hd,by have:=r.dp;omega,by have:=r.un;omega⟩
theorem iK.deeper{A:Around}(r:iK (k+1) A)(env:Env):iK k (A.deeper env):=
 ⟨r.hd,by have:=r.dp;show A.depth+1+3*k+5<_;omega,by have:=r.un;show A.units+3+16*k+200<_;omega⟩
theorem BJ{A:Around}{kw:List (Str×Value)}:(A.under (.builtin "type.__call__" ⟨.ref C ::us,kw⟩)).depth=A.depth+1:=by
 first|rfl|simp[Around.under,Code.weight,Code.isCreation,Code.isGuard,Code.isCaller,Code.frames,Code.isFrame,guardIds]
theorem Bb{A:Around}{kw:List (Str×Value)}:(A.under (.builtin "type.__call__" ⟨.ref C ::us,kw⟩)).units=A.units+1:=by
 first|rfl|simp[Around.under,Code.cUnits,Code.frames,Code.isFrame]
theorem iK.make{A:Around}(r:iK (k+1) A)(C:Addr)(us:List Value)(kw:List (Str×Value)):iK k (A.under (.builtin "type.__call__" ⟨.ref C ::us,kw⟩)):=
 ⟨r.hd,by have:=r.dp;rw[BJ];omega,by have:=r.un;rw[Bb];omega⟩
theorem iK.depth{A:Around}(r:iK k A):A.depth<recursionLimit:=by have:=r.dp;omega
theorem iK.units{A:Around}(r:iK k A):A.units+64<cLine:=by have:=r.un;omega
def mG:TA:=fun _ H Q=>Q [] H
def jx(ta:TE)(tr:TA):TA:=fun σ H Q=>ta σ H fun x H1=>tr σ H1 fun xs H2=>Q (x ::xs) H2
section
variable{X:Cx}{e:Expr}{es:List Expr}{te:TE}{t:TA}{pos:Pos}
theorem Ll:PA X [] mG:=fun _ _ _ _ H Q I h=>Calls.spliced_nil ⟨[],H,I,.nil,h⟩
theorem HX(ha:PE X e te)(hr:PA X es t)(hs:starEach (e ::es) X.env=(false,eval e X.env) ::starEach es X.env:=by rfl):PA X (e ::es) (jx te t):=by
 intro pos pins s σ H Q I h;rw[hs];show wpAny _ _ (spliced ((false,eval e X.env) ::backTo pos (starEach es X.env))) _ _ s;refine Calls.spliced_cons (thn (ha pins s σ H _ I h) fun u s1 ⟨x,H1,I1,r1,q1⟩=>?_)
 exact thn (hr pos pins s1 σ H1 _ I1 q1) fun us s2 ⟨xs,H2,I2,r2,q2⟩=>⟨x ::xs,H2,I2,.cons r1 r2,q2⟩
def LY(t:TA):TE:=fun σ H Q=>t σ H fun xs H1=>xs.length<=sizeLine /\ ∀ p,H1 p=none->Q (.ref p) (upd H1 p (.tup xs))
def HQ(t:TA):TE:=fun σ H Q=>t σ H fun xs H1=>xs.length<=sizeLine /\ ∀ p,H1 p=none->Q (.ref p) (upd H1 p (.lst xs))
theorem KU{x1}(h:PA X es t):PE X (.Tuple es x1 pos) (LY t):=by
 intro pins s σ H Q I hq;refine wpAny_Tuple_spliced (thn (h pos pins s σ H _ I hq) fun us s1 ⟨xs,H1,I1,r,z,q⟩=>⟨by rw[<- r.length];exact z,?_⟩)
 have hf:H1 s1.heap.objs.size=none:=I1.hok.fresh (Nat.le_refl _)
 refine⟨.ref s1.heap.objs.size,upd H1 s1.heap.objs.size (.tup xs),I1.laid (t':=s1.toks) (fun b u e=>Heap.get?_push_of_some _ e) (Nat.le_refl _) ?_,rfl,q _ hf⟩
 exact⟨z,us,r,⟨_,Heap.get?_push_size _ rfl,rfl,_,rfl⟩⟩
theorem Md(h:PA X es t):PE X (.List es pos) (HQ t):=by
 intro pins s σ H Q I hq;refine wpAny_List_spliced (thn (h pos pins s σ H _ I hq) fun us s1 ⟨xs,H1,I1,r,z,q⟩=>⟨by rw[<- r.length];exact z,?_⟩)
 have hf:H1 s1.heap.objs.size=none:=I1.hok.fresh (Nat.le_refl _)
 refine⟨.ref s1.heap.objs.size,upd H1 s1.heap.objs.size (.lst xs),I1.laid (t':=s1.toks) (fun b u e=>Heap.get?_push_of_some _ e) (Nat.le_refl _) ?_,rfl,q _ hf⟩
 exact⟨z,us,0,r,Heap.get?_push_size _ rfl⟩
end
abbrev Sp:=List V->Hp->VK->XK->Prop
abbrev CXT:=List Env->Hp->Shared->XK->Value->Shared->Prop
structure B2(P:Program)(w:World)(K:PySem.W.Frag)(mg:Str->Option Value)(base:Heap)(A:Around)(outer:List Env)(s:Shared)(H:Hp):Prop where
 frames:A.frames=some outer
 mod:Mod K mg base
 bs:∀ b o,base.get? b=some o->s.heap.get? b=some o /\ H b=none
 bsz:base.objs.size<=s.heap.objs.size
 xt:s.heap.FunFrames base outer
 frf:∀ b∈frs outer,H b=none
 hok:HOk P w H s.heap
 bare:AllBare s.gens
def CE(outer:List Env)(P:Program)(w:World)(H:Hp)(s:Shared)(Q:VK)(u:Value)(s':Shared):Prop:=
 ∃ v H',s'.os=s.os /\ AllBare s'.gens /\ Un (frs outer) [] H H' s.heap s'.heap /\ HOk P w H' s'.heap /\ RelV v u /\ Q v H'
def CR(CX:CXT)(outer:List Env)(P:Program)(w:World)(H:Hp)(s:Shared)(Q:VK)(E:XK)(r:Result)(s':Shared):Prop:=
 match r with
 |.ok (.ret u)=>CE outer P w H s Q u s'
 |.ok _=>False
 |.error e=>CX outer H s E e s'
structure cx(P:Program)(w:World)(K:PySem.W.Frag)(mg:Str->Option Value)(base:Heap)(CX:CXT)(k:Nat)(f:Addr)(fd:FuncData)(ps:List Str)(sp:Sp):Prop where
 len:∀ vs H Q E,sp vs H Q E->vs.length=ps.length
 run:∀(A:Around) (outer:List Env) (s:Shared) (H:Hp) (args:Args) (us:List Value) (vs:List V) (Q:VK) (E:XK),iK k A->B2 P w K mg base A outer s H->BindsTo s fd args (ps.zip us)->Vals vs us->sp vs H Q E ->
  codeAny (model P w) A (.call (.ref f) args) (CR CX outer P w H s Q E) s
theorem cx.mono{K:PySem.W.Frag}{mg:Str->Option Value}(F:cx P w K mg base CX j f fd ps sp)(h:j<=k):
  cx P w K mg base CX k f fd ps sp:=⟨F.len,fun A outer s H args us vs Q E hr=>F.run A outer s H args us vs Q E (hr.mono h)⟩
theorem cx.imp{K:PySem.W.Frag}{mg:Str->Option Value}(F:cx P w K mg base CX k f fd ps sp)
  (h:∀ vs H Q E,sp' vs H Q E->sp vs H Q E):cx P w K mg base CX k f fd ps sp':=
 ⟨fun vs H Q E q=>F.len vs H Q E (h _ _ _ _ q),fun A outer s H args us vs Q E hr he hb hv hs=>F.run A outer s H args us vs Q E hr he hb hv (h _ _ _ _ hs)⟩
theorem B2.make{K:PySem.W.Frag}{mg:Str->Option Value}{A:Around}(e:B2 P w K mg base A outer s H)(C:Addr)(us:List Value)(kw:List (Str×Value)):
  B2 P w K mg base (A.under (.builtin "type.__call__" ⟨.ref C ::us,kw⟩)) outer s H:=⟨by first|exact e.frames|(simpa [Around.under,Code.envs,Code.isFrame,pushEnvs]using e.frames),e.mod,e.bs,e.bsz,e.xt,e.frf,e.hok,e.bare⟩
section
variable{X:Cx}{pins:List (Addr×Obj)}{σ:St}{H:Hp}{s s':Shared}
theorem Inv.MX(I:Inv X pins σ H s):B2 X.prog X.w X.K X.mg X.base X.A X.stack s H:=
 ⟨I.ok.frames,I.ok.mod,I.bs,Nat.le_trans I.ok.bsz I.sz,I.stack,I.zk,I.hok,I.bare⟩
theorem Inv.after(I:Inv X pins σ H s)(h:CE X.stack X.prog X.w H s Q u s'):EP X pins σ Q u s':=by
 obtain⟨v,H',os,bare,un,hok,r,q⟩:=h;obtain⟨hh,g,d,t,os'⟩:=s'
 obtain rfl:os'=s.os:=os
 exact⟨v,H',I.call (h':=hh) (g':=g) (d':=d) (t':=t) (ch:=[]) un hok bare (fun b z=>absurd z (by simp)),r,q⟩
end
def EU(C:Addr)(sp:Sp)(dvs:List V)(E:XK)(t:TA):TE:=fun σ H Q=>t σ H fun vs H1=>∀ x dx,H1 x=none->H1 dx=none->dx≠x ->
 sp (.ref x ::(vs++dvs)) (upd (upd H1 dx (.own x)) x (.ins C dx [])) (fun v H2=>v=.non /\ Q (.ref x) H2) E
def Binds(K:PySem.W.Frag)(fd:FuncData)(ps:List Str)(ds:List Value):Prop:=
 ∀(s:Shared) (us:List Value),K.In s.heap->(us++ds).length=ps.length->BindsTo s fd ⟨us,[]⟩ (ps.zip (us++ds))
theorem Binds.all{K:PySem.W.Frag}{ps:List Str}(h:∀ us:List Value,us.length=ps.length->bindArgs fd ⟨us,[]⟩=pure (ps.zip us)):Binds K fd ps []:=fun s us _ hl=>by
 rw[List.append_nil]at hl ⊢
 exact .of_eq (h us hl)
def Passes(CX:CXT)(X:Cx)(E:XK):Prop:=∀(pins:List (Addr×Obj)) (σ:St) (H:Hp) (s:Shared) (e:Value) (s':Shared),Inv X pins σ H s->CX X.stack H s E e s'->X.xe e s'
section
variable{X:Cx}{CX:CXT}{k:Nat}{f C:Addr}{fd:FuncData}{ps:List Str}{sp:Sp}{dvs:List V}{ds:List Value}{E:XK}{x m:Str}{p pos apos:Pos}{e o:Expr}{es:List Expr}{ta:TE}{t:TA}
structure Mk(K:PySem.W.Frag)(C f:Addr):Prop where
 makes:PySem.W.makesIn K C=true
 init:PySem.W.findIn K (.ref C) "__init__" = some (some (.ref f))
 fn:PySem.W.isFn K (.ref f)=true
 kp:PySem.W.keepIn K (.ref C)=true
theorem Gn{pins:List (Addr×Obj)}(M:Mk X.K C f)(F:cx X.prog X.w X.K X.mg X.base CX k f fd ps sp)(hr:iK (k+1) X.A)(hb:Binds X.K fd ps ds)(hd:Vals dvs ds)
  (hx:Passes CX X E) (I:Inv X pins σ H s) (r:Vals vs us)
  (h:∀ x dx,H x=none->H dx=none->dx≠x->sp (.ref x ::(vs++dvs)) (upd (upd H dx (.own x)) x (.ins C dx [])) (fun v H2=>v=.non /\ Q (.ref x) H2) E):
  wpAny (model X.prog X.w) X.A (call (.ref C) us) (EP X pins σ Q) X.xe s:=by
 have hq:=h (s.heap.objs.size+1) s.heap.objs.size (I.hok.fresh (Nat.le_succ _)) (I.hok.fresh (Nat.le_refl _)) (Nat.ne_of_lt (Nat.lt_succ_self _));have I2:=Inv.made (C:=C) I
 have r2:Vals (V.ref (s.heap.objs.size+1) ::(vs++dvs)) (Value.ref (s.heap.objs.size+1) ::(us++ds)):=.cons rfl (r.append hd)
 have hl:(Value.ref (s.heap.objs.size+1) ::us++ds).length=ps.length:=by
  have e:=r2.length;rw[F.len _ _ _ _ hq]at e;exact e.symm
 refine wpAny_call (EV (f:=f) I.kIn M.makes M.init (beq_iff_eq.mp M.fn) (codeAny_mono (F.run _ X.stack _ _ ⟨Value.ref (s.heap.objs.size+1) ::us,[]⟩ (Value.ref (s.heap.objs.size+1) ::(us++ds)) _ _ E (hr.make C us [])
  (I2.MX.make C us []) (hb _ (Value.ref (s.heap.objs.size+1) ::us) I2.kIn hl) r2 hq) fun r s' hq'=>?_))
 cases r with
 |error e=>exact hx pins σ _ _ e s' I2 hq'
 | ok fl=>
   cases fl with
   | ret u=>
     obtain⟨v,H',I3,rv,ev,q3⟩:=I2.after hq';subst ev
     exact⟨rv,⟨V.ref (s.heap.objs.size+1),H',I3,rfl,q3⟩⟩
   |next=>exact False.elim hq'
   |brk=>exact False.elim hq'
   |cont=>exact False.elim hq'
theorem FK(M:Mk X.K C f)(F:cx X.prog X.w X.K X.mg X.base CX k f fd ps sp)(hr:iK (k+1) X.A)(hg:Gl X x)(hm:X.mg x=some (.ref C))(hb:Binds X.K fd ps ds)(hd:Vals dvs ds)(hx:Passes CX X E)
  (hdb:(x==("__debug__":Str))=false:=by decide):PE X (.Call (.Name x p) [] [] pos) (EU C sp dvs E mG):=by
 intro pins s σ H Q I h;refine wpAny_Call_Name_kw (vt I hg hm ?_ hdb);exact PySem.W.callWith_K0 I.kIn M.kp (Gn (us:=[]) M F hr hb hd hx I .nil h)
end
structure aT(N P:List Str)(sc:Scope):Prop where
 kind:sc.kind=.function
 co:sc.isCoroutine=false
 gen:sc.isGenerator=false
 nd:N.Nodup
 pre:N.take P.length=P
 par:∀ x∈P,sc.names.lookup x=some .local \/ sc.names.lookup x=some .cell
 nofree:∀ y∈sc.names,y.2≠.free
theorem xQ{kindOf:Str->Option NameKind}:∀{binds:List (Str×Value)} {m:Str->Option Value},(∀ v,(x,v)∉binds)->bindL kindOf binds m x=m x
 |[],_,_=>rfl
 | (n,v) ::r,m,h=>by
   unfold bindL;rw[xQ fun w hw=>h w (List.mem_cons_of_mem _ hw)];split
   . have:x≠n:=by rintro rfl;exact h v List.mem_cons_self
     simp[this]
   . rfl
theorem xK{kindOf:Str->Option NameKind}:∀{binds:List (Str×Value)} {m:Str->Option Value},(∀ v,(x,v)∉binds)->bindC kindOf binds m x=m x
 |[],_,_=>rfl
 | (n,v) ::r,m,h=>by
   unfold bindC;rw[xK fun w hw=>h w (List.mem_cons_of_mem _ hw)];split
   . rfl
   . have:x≠n:=by rintro rfl;exact h v List.mem_cons_self
     simp[this]
theorem yb{kindOf:Str->Option NameKind}:∀{P:List Str} {vs:List Value} {i:Nat} {m:Str->Option Value},P.Nodup->P[i]?=some x->vs[i]?=some v->kindOf x=some .local ->
  bindL kindOf (P.zip vs) m x=some v
 |[],_,_,_,_,h,_,_=>by simp at h
 |_ ::_,[],_,_,_,_,h,_=>by simp at h
 | p ::P,w ::vs,0,m,nd,h1,h2,hk=>by
   simp at h1 h2;subst h1;subst h2;show bindL kindOf ((p,w) ::P.zip vs) m p=_;unfold bindL;rw[xQ fun v hv=>(List.nodup_cons.mp nd).1 (List.of_mem_zip hv).1,if_pos hk];simp
 | p ::P,w ::vs,i+1,m,nd,h1,h2,hk=>by
   show bindL kindOf ((p,w) ::P.zip vs) m x=_;unfold bindL;exact yb (i:=i) (List.nodup_cons.mp nd).2 (by simpa using h1) (by simpa using h2) hk
theorem yh{kindOf:Str->Option NameKind}:∀{P:List Str} {vs:List Value} {i:Nat} {m:Str->Option Value},P.Nodup->P[i]?=some x->vs[i]?=some v->kindOf x≠some .local ->
  bindC kindOf (P.zip vs) m x=some v
 |[],_,_,_,_,h,_,_=>by simp at h
 |_ ::_,[],_,_,_,_,h,_=>by simp at h
 | p ::P,w ::vs,0,m,nd,h1,h2,hk=>by
   simp at h1 h2;subst h1;subst h2;show bindC kindOf ((p,w) ::P.zip vs) m p=_;unfold bindC;rw[xK fun v hv=>(List.nodup_cons.mp nd).1 (List.of_mem_zip hv).1,if_neg hk];simp
 | p ::P,w ::vs,i+1,m,nd,h1,h2,hk=>by
   show bindC kindOf ((p,w) ::P.zip vs) m x=_;unfold bindC;exact yh (i:=i) (List.nodup_cons.mp nd).2 (by simpa using h1) (by simpa using h2) hk
def start(N:List Str)(vs:List V):St:=vs.map some++List.replicate (N.length - vs.length) none
def uq(CX:CXT)(P:Program)(w:World)(K:PySem.W.Frag)(mg:Str->Option Value)(base:Heap)(N:List Str)(qual:Str)(scope:Scope)(f:Addr)(cd:Value)(A:Around)(outer:List Env)(s:Shared)(H:Hp)(E:XK):Cx where
 prog:=P
 w:=w
 K:=K
 mg:=mg
 base:=base
 A:=A.deeper (envOfC qual scope s.heap.objs.size f cd)
 N:=N
 s₀:=s
 H₀:=H
 env:=envOfC qual scope s.heap.objs.size f cd
 outer:=outer
 stack:=envOfC qual scope s.heap.objs.size f cd ::outer
 ex:=[]
 calm:=true
 fn:=fun _=>true
 pn:=[]
 xe:=fun e s'=>wpAny (model P w) (A.deeper (envOfC qual scope s.heap.objs.size f cd)) (leaving (envOfC qual scope s.heap.objs.size f cd) e) (fun _ s''=>CX outer H s E e s'') (fun e' s''=>CX outer H s E e' s'') s'
theorem A6{sc:Scope}(h:sc.names.lookup x=some .cell):∃ c,(cellsFrom n sc.names []).lookup x=some c:=by
 have q:=PySem.W.cellsFrom_some sc.names n [] (.inl h);exact Option.isSome_iff_exists.mp q
theorem Di{K:PySem.W.Frag}{mg:Str->Option Value}{N ps:List Str}{scope:Scope}{A:Around}{s s1:Shared}{vs:List V}
  (S:aT N ps scope) (hd:A.handled=none) (e0:B2 P w K mg base A outer s H) (hl:vs.length=ps.length) (r:Vals vs us)
  (x:InCallC s s.heap.objs.size (bindL (envOfC qual scope s.heap.objs.size f cd).kindOf (ps.zip us) fun _=>none) (cellsFrom (s.heap.objs.size+1) scope.names []) (bindC (envOfC qual scope s.heap.objs.size f cd).kindOf (ps.zip us) fun _=>none) s1):
  Inv (uq CX P w K mg base N qual scope f cd A outer s H E) [] (start N vs) H s1:=by
 have hpl:ps.length<=N.length:=by have:=congrArg List.length S.pre;rw[List.length_take]at this;omega
 obtain⟨h1,tk,rfl,hk⟩:=x.done
 have noA:∀ b:Addr,b∉(uq CX P w K mg base N qual scope f cd A outer s H E).ex:=fun b z=>absurd (show b∈([]:List Addr) from z) (by simp)
 refine⟨⟨e0.mod,S.kind,rfl,rfl,Nat.le_refl _,fun y z c h1 h2=>?_,fun y hy=>?_,fun y c _ h=>?_,fun _=>hd,Around.frames_deeper e0.frames,.inr ⟨rfl,rfl⟩,fun b z=>absurd z (noA b),e0.bs,e0.bsz,fun b _ _=>noA b,fun b z=>absurd z (noA b),e0.xt,e0.frf⟩,
  rfl,e0.bare,Un.kept hk,⟨_,x.toInCall.ns,fun i y v h1 h2 h3=>?_⟩,fun y c h=>⟨_,x.cell y c h⟩,e0.hok.fresh (Nat.le_refl _),fun y c h=>?_,fun p hp=>absurd (show p∈([]:List (Addr×Obj)) from hp) (by simp),e0.hok.kept hk,?_⟩
 . exact name_of_addr x.apart (PySem.mem_of_lookup h1) (PySem.mem_of_lookup h2)
 . have hy:scope.names.lookup y=some .cell \/ scope.names.lookup y=some .free:=hy
   rcases hy with hy|hy
   . exact A6 hy
   . exact absurd rfl (S.nofree _ (PySem.mem_of_lookup hy))
 . exact Nat.le_of_lt (x.above y c (PySem.mem_of_lookup h))
 . have hi:i < vs.length:=by
    unfold start at h2
    by_cases hi:i<vs.length
    . exact hi
    . rw[List.getElem?_append_right (by simpa using hi)]at h2;rw[List.getElem?_replicate]at h2
      split at h2<;>cases h2
   have ha:vs[i]?=some v:=by
    unfold start at h2;rw[List.getElem?_append_left (by simpa using hi),List.getElem?_map]at h2
    cases e:vs[i]? with
    |none=>rw[e]at h2;cases h2
    |some a=>rw[e]at h2;cases h2;rfl
   obtain⟨u,hu,rv⟩:=r.get ha
   have hp:ps[i]?=some y:=by
    rw[<- S.pre,List.getElem?_take_of_lt (by omega)];exact h1
   have ndP:ps.Nodup:=by rw[<- S.pre];exact S.nd.sublist (List.take_sublist _ _)
   refine⟨u,rv,?_⟩
   rcases S.par y (List.mem_of_getElem? hp)with k|k
   . exact .inl ⟨k,yb ndP hp hu k⟩
   . obtain⟨c,e⟩:=A6 (n:=s.heap.objs.size+1) k;refine .inr ⟨.inl k,c,e,?_⟩;have q:=x.cell y c e;rw[yh ndP hp hu (by show scope.names.lookup y≠_;rw[k];decide)]at q;exact q
 . exact e0.hok.fresh (Nat.le_of_lt (x.above y c (PySem.mem_of_lookup h)))
 . unfold start;show _=N.length;rw[List.length_append,List.length_map,List.length_replicate];omega
theorem M7{CX:CXT}{P:Program}{w:World}{K:PySem.W.Frag}{mg:Str->Option Value}{base:Heap}{k:Nat}{f:Addr}{name qual:Str}{params:Arguments}{body:List Stmt}{scope:Scope}{dV kV doc pm cdv ct oc:Value}{an od:Option Addr}
  {osl:Array (Option Value)} {N ps:List Str} {sp:Sp} (lk:K.lookup f=some ⟨oc,od,.func (PySem.W.fnOf name qual params body scope dV kV doc pm an cdv ct),osl⟩) (hcd:PySem.W.codeIn K cdv qual=true) (S:aT N ps scope)
  (len:∀ vs H Q E,sp vs H Q E->vs.length=ps.length)
  (hbody:∀(A:Around) (outer:List Env) (s:Shared) (H:Hp) (vs:List V) (Q:VK) (E:XK),iK k (A.deeper (envOfC qual scope s.heap.objs.size f cdv))->sp vs H Q E ->
    ∃ t,PSs (uq CX P w K mg base N qual scope f cdv A outer s H E) body t /\ t { nx:=fun _ H'=>Q .non H',rt:=Q } (start N vs) H):
  cx P w K mg base CX (k+1) f (PySem.W.fnOf name qual params body scope dV kV doc pm an cdv ct) ps sp:=by
 refine⟨len,fun A outer s H args us vs Q E hr e0 hb r hsp=>?_⟩
 have hl:=len _ _ _ _ hsp
 have KX:K.In s.heap:=e0.mod.kin.keeps fun b o e=>(e0.bs b o e).1
 have lim:s.heap.NoLimit:=e0.mod.nolimit.keeps fun b o e=>(e0.bs b o e).1
 have hkind:∀ y∈ps.zip us,scope.names.lookup y.1=some .local \/ (scope.names.lookup y.1=some .cell /\ ((cellsFrom (s.heap.objs.size+1) scope.names []).lookup y.1).isSome=true):=fun ⟨n,v⟩ hy=>by
  rcases S.par n (List.of_mem_zip hy).1 with q|q
  . exact .inl q
  . exact .inr ⟨q,PySem.W.cellsFrom_some _ _ _ (.inl q)⟩
 refine codeAny_call_function hr.depth (KX _ _ lk) rfl S.co S.gen rfl (PySem.W.codeRec_of KX hcd) (hb _ _ _ _ ?_)
 refine wpAny_newFunctionEnv_cells S.kind hkind fun env he s1 x=>?_
 subst he
 refine⟨lim.keeps x.toInCall.keep,codeAny_func ?_⟩
 obtain⟨t,ht,hq⟩:=hbody A outer s H vs Q E (hr.deeper _) hsp
 have I:Inv (uq CX P w K mg base N qual scope f cdv A outer s H E) [] (start N vs) H s1:=Di S hr.hd e0 hl r x
 refine wpAny_mono (ht [] s1 (start N vs) H _ I hq) (fun fl s' hs=>?_) fun e s' hs=>hs
 have fin:∀{σ':St} {H':Hp} {v:V} {u:Value},Inv (uq CX P w K mg base N qual scope f cdv A outer s H E) [] σ' H' s'->RelV v u->Q v H'->CE outer P w H s Q u s':=
  fun {σ' H' v u} J rv q=>⟨v,H',J.os,J.bare,J.base,J.hok,rv,q⟩
 cases fl with
 | ret u=>
   obtain⟨v,σ',H',J,rv,q⟩:=hs;exact fin J rv q
 | next=>
   obtain⟨σ',H',J,q⟩:=hs;exact fin (v:=V.non) (u:=Value.none) J rfl q
 | brk=>
   obtain⟨_,_,_,q⟩:=hs;exact False.elim q
 | cont=>
   obtain⟨_,_,_,q⟩:=hs;exact False.elim q
section
variable{X:Cx}{x:Str}{p pos:Pos}{e:Expr}{es:List Expr}{t:TA}{id T:String}{r:List V->Hp->VK->Prop}
def tCB(r:List V->Hp->VK->Prop)(t:TA):TE:=fun σ H Q=>t σ H fun vs H1=>r vs H1 Q
theorem GC(hc:nZ X (.builtin id) r)(hg:Gl X x)(hm:X.mg x=none)(hv:bootBuiltins x=some (.builtin id))(ha:PA X (e ::es) t)(hn:x ≠ "__name__":=by decide)(hdb:(x==("__debug__":Str))=false:=by decide)
  (he:starEach (e ::es) X.env=(false,eval e X.env) ::starEach es X.env:=by rfl) (hpl:(backTo pos (starEach es X.env)).any (·.1)=false:=by rfl):PE X (.Call (.Name x p) (e ::es) [] pos) (tCB r t):=by
 intro pins s σ H Q I h;refine wpAny_Call_Name_kw (wJ I hg hm hv ?_ hn hdb);exact PyProof.Rows.callWith_builtin1 (thn (ha pos pins s σ H _ I h) fun us s1 ⟨vs,H1,I1,r1,q1⟩=>hc pins s1 σ H1 vs us Q I1 r1 q1) he hpl
theorem DH(hc:nZ X (.type T) r)(hg:Gl X x)(hm:X.mg x=none)(hv:bootBuiltins x=some (.type T))(ha:PA X (e ::es) t)(hn:x ≠ "__name__":=by decide)(hdb:(x==("__debug__":Str))=false:=by decide)
  (he:starEach (e ::es) X.env=(false,eval e X.env) ::starEach es X.env:=by rfl) (hpl:(backTo pos (starEach es X.env)).any (·.1)=false:=by rfl):PE X (.Call (.Name x p) (e ::es) [] pos) (tCB r t):=by
 intro pins s σ H Q I h;refine wpAny_Call_Name_kw (wJ I hg hm hv ?_ hn hdb);exact PyProof.Rows.callWith_type1 (thn (ha pos pins s σ H _ I h) fun us s1 ⟨vs,H1,I1,r1,q1⟩=>hc pins s1 σ H1 vs us Q I1 r1 q1) he hpl
end
end L2
namespace HT
open PySem PyProof.Rows
section
open PySem.SeqAt
open PySem.AutoSeq1 (wpAny_loadPart')
open PySem.MeetsSeq PySem.MeetsSeq2 PySem.MeetsSeq3
end
section
variable{prog:Program}{w:World}{A:Around}{E:Value->Shared->Prop}{s:Shared}
def sIx(n d:Nat):Option Int->Nat
 |none=>d
 |some v=>if v<0 then(v+(n:Int)).toNat else min v.toNat n
end
end HT
namespace L2
open PySem PySem.Spec PyProof.Rows
abbrev TO:=St->Hp->(Option Int->Hp->Prop)->Prop
def PO(X:Cx)(e:Option Expr)(t:TO):Prop:=
 ∀(pins:List (Addr×Obj)) (s:Shared) (σ:St) (H:Hp) (Q:Option Int->Hp->Prop),Inv X pins σ H s->t σ H Q ->
   wpAny (model X.prog X.w) X.A (evalPart e X.env) (fun u s'=>∃ o H',Inv X pins σ H' s' /\ IsPart u o /\ Q o H') X.xe s
def zw:TO:=fun _ H Q=>Q none H
def Gv(t:TE):TO:=fun σ H Q=>t σ H fun x H1=>∃ i,x=.int i /\ Q (some i) H1
section
variable{X:Cx}{e:Expr}{te:TE}{lo hi:Option Expr}{tl th:TO}{pos p2:Pos}
theorem IC:PO X none zw:=by
 intro pins s σ H Q I h;rw[evalPart_none];exact wpAny_pure ⟨none,H,I,.none,h⟩
theorem Ic(h:PE X e te):PO X (some e) (Gv te):=by
 intro pins s σ H Q I hw;rw[evalPart_some]
 refine thn (h pins s σ H _ I hw) fun u s1 ⟨x,H1,I1,r1,q1⟩=>?_
 obtain⟨i,rfl,q⟩:=q1;obtain⟨t,rfl⟩:=r1
 exact⟨some i,H1,I1,.int i t,q⟩
def SlR(X:Cx)(r:V->Option Int->Option Int->Hp->VK->Prop):Prop:=
 ∀(pins:List (Addr×Obj)) (s:Shared) (σ:St) (H:Hp) (x:V) (v vl vu:Value) (lo hi:Option Int) (sl:Addr) (Q:VK),Inv X pins σ H s->RelV x v->s.heap.IsSliceOf sl vl vu .none->IsPart vl lo->IsPart vu hi->r x lo hi H Q ->
   ∃ T id,typeLookup (.type T) "__getitem__" = pure (some (.builtin id)) /\ s.TypeIs v T /\ wpAny (model X.prog X.w) X.A (getItem v (.ref sl)) (EP X pins σ Q) X.xe s
def tSl(r:V->Option Int->Option Int->Hp->VK->Prop)(te:TE)(tl th:TO):TE:=fun σ H Q=>te σ H fun x H1=>tl σ H1 fun l H2=>th σ H2 fun u H3=>r x l u H3 Q
theorem E7{r:V->Option Int->Option Int->Hp->VK->Prop}(hr:SlR X r)(he:PE X e te)(hl:PO X lo tl)(hu:PO X hi th):PE X (.Subscript e (.Slice lo hi none p2) pos) (tSl r te tl th):=by
 intro pins s σ H Q I h;refine Subscript_ (thn (he pins s σ H _ I h) fun v s1 ⟨x,H1,I1,r1,q1⟩=>?_);refine wpAny_Slice (thn (hl pins s1 σ H1 _ I1 q1) fun vl s2 ⟨l,H2,I2,pl,q2⟩=>thn (hu pins s2 σ H2 _ I2 q2) fun vu s3 ⟨u,H3,I3,pu,q3⟩=>?_);rw[evalPart_none];refine wpAny_pure ?_
 have I4:Inv X pins σ H3 { s3 with heap:=s3.heap.push { cls:=.type "slice",data:=.fields #[vl,vu,.none] } }:=I3.kept (t':=s3.toks) fun b ob q=>Heap.get?_push_of_some _ q
 obtain⟨T,id,hT,ht,hg⟩:=hr pins { s3 with heap:=s3.heap.push { cls:=.type "slice",data:=.fields #[vl,vu,.none] } } σ H3 x v vl vu l u s3.heap.objs.size Q I4 r1 (Heap.IsSliceOf.new ..) pl pu q3;show wpAny (model X.prog X.w) X.A (subscriptTail e (.Slice lo hi none p2) v (.ref s3.heap.objs.size)) (EP X pins σ Q) X.xe { s3 with heap:=s3.heap.push { cls:=.type "slice",data:=.fields #[vl,vu,.none] } };exact tail_any (ops:=[.ref s3.heap.objs.size,v]) ht hT hg (by with_unfolding_all rfl)
def Eo(xs:List V)(lo hi:Option Int):List V:=(xs.drop (HT.sIx xs.length 0 lo)).take (HT.sIx xs.length xs.length hi - HT.sIx xs.length 0 lo)
theorem AV(xs:List V)(lo hi:Option Int):(Eo xs lo hi).length<=xs.length:=by
 unfold Eo;rw[List.length_take,List.length_drop];omega
end
def ixN(n:Nat)(i:Int):Option Nat:=if 0<=i then(if i<n then some i.toNat else none)else if -(n:Int)<=i then some (i+n).toNat else none
def atI{α:Type}(xs:List α)(i:Int):Option α:=(ixN xs.length i).bind fun j=>xs[j]?
theorem CQ(h:ixN n i=some j):seqIndex? i n=some j /\ j<n /\ -(n:Int)<=i /\ i<n:=by
 unfold ixN at h
 by_cases h0:0<=i
 . rw[if_pos h0]at h
   by_cases h1:i<n
   . rw[if_pos h1]at h
     have e:i.toNat=j:=Option.some.inj h
     exact⟨by rw[seqIndex_of h0 h1,e],by omega,by omega,h1⟩
   . rw[if_neg h1]at h;cases h
 . rw[if_neg h0]at h
   by_cases h1:-(n:Int)<=i
   . rw[if_pos h1]at h
     have e:(i+n).toNat=j:=Option.some.inj h
     exact⟨by rw[seqIndex_neg (by omega) h1,e],by omega,h1,by omega⟩
   . rw[if_neg h1]at h;cases h
theorem C7{α:Type}{xs:List α}{v:α}(h:atI xs i=some v):∃ j,seqIndex? i xs.length=some j /\ xs[j]?=some v /\ j<xs.length /\ -(xs.length:Int)<=i /\ i<xs.length:=by
 unfold atI at h
 cases e:ixN xs.length i with
 |none=>rw[e]at h;cases h
 | some j=>
   rw[e]at h;obtain⟨h1,h2,h3,h4⟩:=CQ e
   exact⟨j,h1,h,h2,h3,h4⟩
def zr(b:Expr):Prop:=∀ o i,subscripted b false o i=operate [o,i] (getItem o i)
def IxR(X:Cx)(r:R2):Prop:=
 ∀(value slice:Expr) (pins:List (Addr×Obj)) (s:Shared) (σ:St) (H:Hp) (x y:V) (v u:Value) (Q:VK),Inv X pins σ H s->RelV x v->RelV y u->r x y H Q ->
   subscripted slice false v u=operate [v,u] (getItem v u)->wpAny (model X.prog X.w) X.A (subscriptTail value slice v u) (EP X pins σ Q) X.xe s
def MtR(X:Cx)(id:String)(r:V->List V->Hp->VK->Prop):Prop:=
 ∀(pins:List (Addr×Obj)) (s:Shared) (σ:St) (H:Hp) (x:V) (xs:List V) (v:Value) (us:List Value) (Q:VK),Inv X pins σ H s->RelV x v->Vals xs us->r x xs H Q ->
   wpAny (model X.prog X.w) X.A (call (.builtin id) (v ::us)) (EP X pins σ Q) X.xe s
section
variable{X:Cx}{a b:Expr}{ta tb:TE}{pos:Pos}
theorem MT(hr:IxR X r)(ha:PE X a ta)(hb:PE X b tb)(hs:zr b):PE X (.Subscript a b pos) (tOp r ta tb):=by
 intro pins s σ H Q I h;exact Subscript_ (Lz ha hb I h fun v u s2 x y H2 I2 rx ry q=>hr a b pins s2 σ H2 x y v u Q I2 rx ry q (hs _ _))
def Iv(K:PySem.W.Frag):R2:=fun x y H Q=>∃ p xs i v,x=.ref p /\ y=.int i /\ SqL K H p xs /\ atI xs i=some v /\ Q v H
def MU(K:PySem.W.Frag):R2:=fun x y H Q=>∃ p xs i v,x=.ref p /\ y=.int i /\ SqT K H p xs /\ atI xs i=some v /\ Q v H
theorem bg:IxR X (Iv X.K):=by
 intro value slice pins s σ H x y v u Q I rx ry h hs;obtain⟨p,xs,i,z,rfl,rfl,hq,he,q⟩:=h;cases rx;obtain⟨t,rfl⟩:=ry;obtain⟨its,r,pl,hz⟩:=I.list hq;obtain⟨j,h1,h2,h3,h4,h5⟩:=C7 he;obtain⟨w,ew,rw'⟩:=r.get h2;have hl:=r.length;have hn:=vT
 have fin:EP X pins σ Q w s:=⟨z,H,I,rw',q⟩
 by_cases h0:0<=i
 . have hj:i.toNat = j:=by
    rw[seqIndex_of h0 h5]at h1;exact Option.some.inj h1
   exact item_listR pl.isList h0 (by omega) (by rw[hj];simpa using ew) fin hs
 . have hj:(i + (its.toArray.size:Int)).toNat = j:=by
    rw[seqIndex_neg (by omega) h4]at h1;rw[List.size_toArray,<- hl];exact Option.some.inj h1
   exact subscriptTail_builtinR (x:=w) pl.isList.typeIs slot_list_getitem.lookup
    (wpAny_getItem_list_neg (Q:=fun r s'=>r=w /\ EP X pins σ Q r s') pl.isList (by omega) (by rw[List.size_toArray]<;>omega) (by omega) (by rw[hj];simpa using ew) ⟨rfl,fin⟩) hs
theorem dX:IxR X (MU X.K):=by
 intro value slice pins s σ H x y v u Q I rx ry h hs;obtain⟨p,xs,i,z,rfl,rfl,hq,he,q⟩:=h;cases rx;obtain⟨t,rfl⟩:=ry;obtain⟨its,r,pl,hz⟩:=I.tuple hq;obtain⟨j,h1,h2,h3,h4,h5⟩:=C7 he;obtain⟨w,ew,rw'⟩:=r.get h2;have hl:=r.length;have hn:=vT
 have fin:EP X pins σ Q w s:=⟨z,H,I,rw',q⟩
 exact subscriptTail_builtinR (x:=w) pl.typeIs slot_tuple_getitem.lookup
  (getItem_tuple (j:=j) (Q:=fun r s'=>r=w /\ EP X pins σ Q r s') pl (by omega) (by omega) (by rw[List.size_toArray,<- hl];exact h1) (by simpa using ew) ⟨rfl,fin⟩) hs
theorem By(its:List Value)(n j:Nat)(u:Value):Obj.mapSeq (·.setIfInBounds j u) { cls:=.type "list",data:=.seq its.toArray n }={ cls:=.type "list",data:=.seq (its.set j u).toArray n }:=by
 simp[Obj.mapSeq]
theorem Inv.lst{pins:List (Addr×Obj)}{s:Shared}{xs:List V}(I:Inv X pins σ H s)(h:H p=some (.lst xs)):
  ∃(its:List Value) (n:Nat),Vals xs its /\ s.heap.get? p=some { cls:=.type "list",data:=.seq its.toArray n } /\ xs.length<=sizeLine:=by
 obtain⟨z,its,n,r,e⟩:=I.hok p _ h
 exact⟨its,n,r,e,z⟩
theorem Inv.Kj{pins:List (Addr×Obj)}{s:Shared}{xs ys:List V}{its its':List Value}{f:Obj->Obj}(I:Inv X pins σ H s)(h:H p=some (.lst xs))
  (ho:s.heap.get? p=some { cls:=.type "list",data:=.seq its.toArray n }) (hf:f { cls:=.type "list",data:=.seq its.toArray n }={ cls:=.type "list",data:=.seq its'.toArray n' }) (r:Vals ys its') (hz:ys.length<=sizeLine) (t:Nat):
  Inv X pins σ (upd H p (.lst ys)) { s with heap:=s.heap.update p f,toks:=t }:=by
 have e:(s.heap.update p f).get? p=some { cls:=.type "list",data:=.seq its'.toArray n' }:=by
  rw[Heap.get?_update_self f ho (by rw[hf]<;>rfl),hf]
 refine I.write (x:=p) (e:=p) (by rw[h];trivial) (.inl rfl) (fun b u hb q=>(Heap.get?_update_other _ _ (Ne.symm hb)).trans q) ⟨_,e⟩ ?_
 exact⟨hz,its',n',r,e⟩
def Fq:V->V->V->Hp->(Hp->Prop)->Prop:=fun o i v H Q=>∃ p xs k j,o=.ref p /\ i=.int k /\ H p=some (.lst xs) /\ ixN xs.length k=some j /\ Q (upd H p (.lst (xs.set j v)))
theorem set_list:Lo X Fq:=by
 intro pins s σ H o i v ov iv u Q I ro ri rv h;obtain⟨p,xs,k,j,rfl,rfl,hp,hj,q⟩:=h;cases ro;obtain⟨t,rfl⟩:=ri;obtain⟨its,n,r,ho,hz⟩:=I.lst hp;obtain⟨h1,h2,h3,h4⟩:=CQ hj;have hl:=r.length;have hn:=vT
 have I':Inv X pins σ (upd H p (.lst (xs.set j v))) { s with heap:=s.heap.update p (Obj.mapSeq (·.setIfInBounds j u)) }:=
  I.Kj hp ho (By its n j u) (r.set rv j) (by rw[List.length_set];exact hz) s.toks
 by_cases h0:0<=k
 . have hk:k.toNat = j:=by
    rw[seqIndex_of h0 h4]at h1;exact Option.some.inj h1
   exact PySem.W.ki_setAt ho h0 (by omega) (by rw[List.size_toArray,<- hl];exact h4) (by rw[hk];exact⟨_,I',q⟩)
 . have hk:(k + (its.toArray.size:Int)).toNat = j:=by
    rw[seqIndex_neg (by omega) h3]at h1;rw[List.size_toArray,<- hl];exact Option.some.inj h1
   exact PySem.W.ki_setBack ho (by omega) (by rw[List.size_toArray,<- hl];exact h3) (by omega) (by rw[hk];exact⟨_,I',q⟩)
theorem yI(lo hi:Option Int)(n:Nat):(sliceBounds lo hi none n).1=((HT.sIx n 0 lo:Nat):Int) /\ (sliceBounds lo hi none n).2.1=((HT.sIx n n hi:Nat):Int) /\ (sliceBounds lo hi none n).2.2=1:=by
 refine⟨?_,?_,rfl⟩
 . cases lo with
   |none=>simp[sliceBounds,HT.sIx]
   | some i=>
     simp only[sliceBounds,HT.sIx,Option.getD_none,show(1:Int)>0 by decide,if_true]
     by_cases h:i<0
     . simp only[h,if_true]<;>omega
     . simp only[h,if_false]<;>omega
 . cases hi with
   |none=>simp[sliceBounds,HT.sIx]
   | some i=>
     simp only[sliceBounds,HT.sIx,Option.getD_none,show(1:Int)>0 by decide,if_true]
     by_cases h:i<0
     . simp only[h,if_true]<;>omega
     . simp only[h,if_false]<;>omega
theorem xn(its:List Value)(lo hi:Option Int):slicePick its.toArray lo hi none=((its.drop (HT.sIx its.length 0 lo)).take (HT.sIx its.length its.length hi - HT.sIx its.length 0 lo)).toArray:=by
 obtain⟨h1,h2,h3⟩:=yI lo hi its.toArray.size;unfold slicePick;rw[h1,h2,h3]
 simp only[sliceRange_one,pick_run,List.size_toArray]<;>rfl
def M5(K:PySem.W.Frag):V->Option Int->Option Int->Hp->VK->Prop:=fun x lo hi H Q=>∃ a xs,x=.ref a /\ SqL K H a xs /\ ∀ p,H p=none->Q (.ref p) (upd H p (.lst (Eo xs lo hi)))
theorem Hu:SlR X (M5 X.K):=by
 intro pins s σ H x v vl vu lo hi sl Q I rx hs pl pu h;obtain⟨a,xs,rfl,hx,q⟩:=h;cases rx;obtain⟨its,r,ht,hz⟩:=I.list hx;have hlen:=r.length
 refine⟨"list",_,slot_list_getitem.lookup,ht.isList.typeIs,?_⟩
 refine wpAny_getItem_list_slice ht.isList hs pl pu .none (by simp) ?_ (by rw[List.size_toArray]<;>omega);rw[xn,<- hlen]
 refine⟨.ref s.heap.objs.size,_,I.laid (t':=s.toks) (o:=.lst (Eo xs lo hi)) (fun b ob q=>Heap.get?_push_of_some _ q) (Nat.le_refl _) ?_,rfl,q _ (I.hok.fresh (Nat.le_refl _))⟩
 exact⟨Nat.le_trans (AV xs lo hi) hz,_,0,(r.drop (HT.sIx xs.length 0 lo)).take (HT.sIx xs.length xs.length hi - HT.sIx xs.length 0 lo),Heap.get?_push_size _ rfl⟩
def rS:V->Bool
 |.non=>true
 |.bl _=>true
 |.int _=>true
 |.str _=>true
 |_=>false
def eqV:V->V->Bool
 |.non,.non=>true
 |.bl a,.bl b=>a==b
 |.bl a,.int b=>(if a then 1 else 0)==b
 |.int a,.bl b=>a==(if b then 1 else 0)
 |.int a,.int b=>a==b
 |.str a,.str b=>a==b
 |_,_=>false
theorem L1(ry:RelV y u)(rx:RelV x v)(fy:rS y=true)(fx:rS x=true):SeqAt.EqAt A s u v (eqV y x):=by
 cases y with
 | non=>
   cases ry
   cases x with
   |non=>cases rx;exact SeqAt.EqAt.same _
   |bl b=>cases rx;exact SeqAt.EqAt.none_bool b
   |int b=>obtain⟨t,rfl⟩:=rx;exact SeqAt.EqAt.none_int b t
   |str b=>obtain⟨t,rfl⟩:=rx;exact SeqAt.EqAt.none_str b t
   |_=>exact absurd (show false=true from fx) Bool.false_ne_true
 | bl a=>
   cases ry
   cases x with
   |non=>cases rx;exact SeqAt.EqAt.bool_none a
   |bl b=>cases rx;exact SeqAt.EqAt.bool_bool a b
   |int b=>obtain⟨t,rfl⟩:=rx;exact SeqAt.EqAt.bool_int a b t
   |str b=>obtain⟨t,rfl⟩:=rx;exact SeqAt.EqAt.bool_str a b t
   |_=>exact absurd (show false=true from fx) Bool.false_ne_true
 | int a=>
   obtain⟨t',rfl⟩:=ry
   cases x with
   |non=>cases rx;exact SeqAt.EqAt.int_none a t'
   |bl b=>cases rx;exact SeqAt.EqAt.int_bool a t' b
   |int b=>obtain⟨t,rfl⟩:=rx;exact SeqAt.EqAt.int_int a t' b t
   |str b=>obtain⟨t,rfl⟩:=rx;exact SeqAt.EqAt.int_str a t' b t
   |_=>exact absurd (show false=true from fx) Bool.false_ne_true
 | str a=>
   obtain⟨t',rfl⟩:=ry
   cases x with
   |non=>cases rx;exact SeqAt.EqAt.str_none a t'
   |bl b=>cases rx;exact SeqAt.EqAt.str_bool a t' b
   |int b=>obtain⟨t,rfl⟩:=rx;exact SeqAt.EqAt.str_int a t' b t
   |str b=>obtain⟨t,rfl⟩:=rx;exact SeqAt.EqAt.str_str a t' b t
   |_=>exact absurd (show false=true from fx) Bool.false_ne_true
 |_=>exact absurd (show false=true from fy) Bool.false_ne_true
def eqU(x:V)(u:Value):Bool:=match u with
 |.none=>eqV .non x
 |.bool b=>eqV (.bl b) x
 |.int i _=>eqV (.int i) x
 |.str z _=>eqV (.str z) x
 |_=>false
theorem Ez(r:RelV y u)(f:rS y=true):eqU x u=eqV y x:=by
 cases y with
 |non=>cases r;rfl
 |bl b=>cases r;rfl
 |int i=>obtain⟨t,rfl⟩:=r;rfl
 |str z=>obtain⟨t,rfl⟩:=r;rfl
 |_=>exact absurd (show false=true from f) Bool.false_ne_true
theorem ua:∀{xs:List V} {us:List Value},Vals xs us->xs.all rS=true->us.any (eqU x)=xs.any fun y=>eqV y x
 |_,_,.nil,_=>rfl
 | y ::xs,u ::us,.cons r t,f=>by
   rw[List.all_cons,Bool.and_eq_true]at f;rw[List.any_cons,List.any_cons,Ez r f.1,ua t f.2]
theorem qy(rx:RelV x v)(fx:rS x=true):∀{xs:List V} {us:List Value},Vals xs us->xs.all rS=true->∀ u∈us,SeqAt.EqAt A s u v (eqU x u)
 |_,_,.nil,_=>fun u hu=>by cases hu
 | y ::xs,u ::us,.cons r t,f=>fun u' hu=>by
   rw[List.all_cons,Bool.and_eq_true]at f
   rcases List.mem_cons.mp hu with rfl|hu
   . rw[Ez r f.1];exact L1 r rx f.1 fx
   . exact qy rx fx t f.2 u' hu
def inV(x:V)(xs:List V):Bool:=xs.any fun y=>eqV y x
def rIn(K:PySem.W.Frag)(neg:Bool):R2:=fun x y H Q=>∃ p xs,y=.ref p /\ (SqL K H p xs \/ SqT K H p xs) /\ rS x=true /\ xs.all rS=true /\ Q (.bl (if neg then !inV x xs else inV x xs)) H
theorem DE:OpR X (compareOp .In) (rIn X.K false):=by
 intro pins s σ H x y v u Q I rx ry h;obtain⟨p,xs,rfl,hq,fx,fs,q⟩:=h;cases ry
 rcases hq with hq|hq
 . obtain⟨its,r,pl,hz⟩:=I.list hq;refine SeqAt.in_listAt (eqU x) pl.isList (fun w hw=>qy rx fx r fs w (by simpa using hw)) ⟨.bl _,H,I,rfl,?_⟩;rw[show its.toArray.any (eqU x)=its.any (eqU x) by simp,ua r fs];exact q
 . obtain⟨its,r,pl,hz⟩:=I.tuple hq;refine SeqAt.in_tupleAt (eqU x) pl (fun w hw=>qy rx fx r fs w (by simpa using hw)) ⟨.bl _,H,I,rfl,?_⟩;rw[show its.toArray.any (eqU x)=its.any (eqU x) by simp,ua r fs];exact q
theorem za:OpR X (compareOp .NotIn) (rIn X.K true):=by
 intro pins s σ H x y v u Q I rx ry h;obtain⟨p,xs,rfl,hq,fx,fs,q⟩:=h;cases ry
 rcases hq with hq|hq
 . obtain⟨its,r,pl,hz⟩:=I.list hq;refine SeqAt.notIn_listAt (eqU x) pl.isList (fun w hw=>qy rx fx r fs w (by simpa using hw)) ⟨.bl _,H,I,rfl,?_⟩;rw[show its.toArray.any (eqU x)=its.any (eqU x) by simp,ua r fs];exact q
 . obtain⟨its,r,pl,hz⟩:=I.tuple hq;refine SeqAt.notIn_tupleAt (eqU x) pl (fun w hw=>qy rx fx r fs w (by simpa using hw)) ⟨.bl _,H,I,rfl,?_⟩;rw[show its.toArray.any (eqU x)=its.any (eqU x) by simp,ua r fs];exact q
theorem ym:nZ X (.builtin "len") (fun xs H Q=>∃ p ys,xs=[.ref p] /\ (SqL X.K H p ys \/ SqT X.K H p ys) /\ Q (.int ys.length) H):=by
 intro pins s σ H xs us Q I r h;obtain⟨p,ys,rfl,hq,q⟩:=h;obtain⟨u,rfl,rx⟩:=vals1 r;cases rx;have hn:=vT
 rcases hq with hq|hq
 . obtain⟨its,r',pl,hz⟩:=I.list hq;have hlen:=r'.length;exact Calls.call_len_list pl.isList (by simp only[List.size_toArray]<;>omega) ⟨.int ys.length,H,I.tok _,⟨s.toks+1,by rw[List.size_toArray,hlen]⟩,q⟩
 . obtain⟨its,r',pl,hz⟩:=I.tuple hq;have hlen:=r'.length;exact len_tuple pl (by simp only[List.size_toArray]<;>omega) ⟨.int ys.length,H,I.tok _,⟨s.toks+1,by rw[List.size_toArray,hlen]⟩,q⟩
theorem yS:nZ X (.type "list") (fun xs H Q=>∃ p ys,xs=[.ref p] /\ (SqL X.K H p ys \/ SqT X.K H p ys) /\ ∀ l,H l=none->Q (.ref l) (upd H l (.lst ys))):=by
 intro pins s σ H xs us Q I r h;obtain⟨p,ys,rfl,hq,q⟩:=h;obtain⟨u,rfl,rx⟩:=vals1 r;cases rx
 have fin:∀(its:List Value),Vals ys its->ys.length<=sizeLine->∀(h':Heap) (c':Nat),(∀ b o',s.heap.get? b=some o'->h'.get? b=some o') ->
   h'.get? s.heap.objs.size=some { cls:=.type "list",dict:=none,data:=.seq its.toArray c',slots:=#[] }->EP X pins σ Q (.ref s.heap.objs.size) { s with heap:=h' }:=fun its r' hz h' c' kp e=>
  ⟨.ref s.heap.objs.size,_,I.laid (t':=s.toks) kp (Nat.le_refl _) (show gD X.prog X.w _ h' _ (.lst ys) from⟨hz,its,c',r',e⟩),rfl,q _ (I.hok.fresh (Nat.le_refl _))⟩
 rcases hq with hq|hq
 . obtain⟨its,r',pl,hz⟩:=I.list hq;have hlen:=r'.length;obtain⟨o,ho,hc,n,hd⟩:=pl.isList;exact call_list_seq p (.inl rfl) ho hc hd (fun h' c' kp e=>fin its r' hz h' c' kp e) (by simp only[List.size_toArray]<;>omega)
 . obtain⟨its,r',pl,hz⟩:=I.tuple hq;have hlen:=r'.length;obtain⟨o,ho,hc,n,hd⟩:=pl;exact call_list_seq p (.inr rfl) ho hc hd (fun h' c' kp e=>fin its r' hz h' c' kp e) (by simp only[List.size_toArray]<;>omega)
theorem ku:nZ X (.type "tuple") (fun xs H Q=>∃ p ys,xs=[.ref p] /\ ((SqL X.K H p ys /\ ∀ l,H l=none->Q (.ref l) (upd H l (.tup ys))) \/ (SqT X.K H p ys /\ Q (.ref p) H))):=by
 intro pins s σ H xs us Q I r h;obtain⟨p,ys,rfl,h⟩:=h;obtain⟨u,rfl,rx⟩:=vals1 r;cases rx
 rcases h with⟨hq,q⟩|⟨hq,q⟩
 . obtain⟨its,r',pl,hz⟩:=I.list hq;have hlen:=r'.length;refine call_tuple_list pl.isList (fun h' kp=>?_) (by simp only[List.size_toArray]<;>omega)
   have I1:Inv X pins σ H { s with heap:=h' }:=I.kept (t':=s.toks) kp
   have I2:Inv X pins σ (upd H h'.objs.size (.tup ys)) { s with heap:=h'.push { cls:=.type "tuple",data:=.seq its.toArray } }:=
    I1.laid (t':=s.toks) (fun b o e=>Heap.get?_push_of_some _ e) (Nat.le_refl _) (show gD X.prog X.w _ _ _ (.tup ys) from⟨hz,its,r',IsTup.new _ _⟩)
   exact⟨.ref h'.objs.size,_,I2,rfl,q _ (I1.hok.fresh (Nat.le_refl _))⟩
 . obtain⟨its,r',pl,hz⟩:=I.tuple hq;exact call_tuple_same pl ⟨.ref p,H,I,rfl,q⟩
def tyV(K:PySem.W.Frag)(T:String)(x:V)(H:Hp):Prop:=match x with
 |.str _=>T = "str"
 |.int _=>T = "int"
 | .ref p=>(T = "list" /\ ∃ xs,SqL K H p xs) \/ (T = "tuple" /\ ∃ o,K.lookup p = some o /\ o.cls = .type "tuple" /\ o.dict = none) \/
    (T = "dict" /\ ((∃ kvs,H p=some (.dK kvs)) \/ ∃ kvs,H p=some (.dT kvs))) \/ (T = "set" /\ ∃ S n,H p=some (.set S n))
 |_=>False
theorem Fj{pins:List (Addr×Obj)}{s:Shared}(I:Inv X pins σ H s)(r:RelV x v)(ty:tyV X.K T x H):
  s.TypeIs v T /\ ∀ a,v=.ref a->∃ ob,s.heap.get? a=some ob /\ ob.dict=none:=by
 cases x with
 | str z=>
   obtain⟨t,rfl⟩:=r
   cases(show T = "str" from ty)
   exact⟨typeIs_str s z t,fun _ e=>nomatch e⟩
 | int i=>
   obtain⟨t,rfl⟩:=r
   cases(show T = "int" from ty)
   exact⟨typeIs_int s i t,fun _ e=>nomatch e⟩
 | ref p=>
   cases r
   rcases ty with⟨rfl,xs,hq⟩|⟨rfl,o,hk,hc,hd⟩|⟨rfl,hk⟩|⟨rfl,S,n,hk⟩
   . obtain⟨its,_,pl,_⟩:=I.list hq
     refine⟨pl.isList.typeIs,fun a e=>?_⟩
     cases e;obtain⟨o,n,e,c,hd,_⟩:=pl
     exact⟨o,e,hd⟩
   . refine⟨⟨o,I.kIn p o hk,hc⟩,fun a e=>?_⟩
     cases e
     exact⟨o,I.kIn _ o hk,hd⟩
   . have z:∃ o,s.heap.get? p = some o /\ o.ExactDict:=by
      rcases hk with⟨kvs,hk⟩|⟨kvs,hk⟩
      . obtain⟨_,_,_,_,o,_,_,e,ex,_⟩:=I.hok p _ hk
        exact⟨o,e,ex⟩
      . obtain⟨_,_,_,_,o,_,_,e,ex,_⟩:=I.hok p _ hk
        exact⟨o,e,ex⟩
     obtain⟨o,e,ex⟩:=z
     refine⟨⟨o,e,ex.1⟩,fun a e2=>?_⟩
     cases e2
     exact⟨o,e,ex.2.1⟩
   . obtain⟨o,_,_,_,e,ex,_⟩:=I.hok p _ hk
     refine⟨⟨o,e,ex.1⟩,fun a e2=>?_⟩
     cases e2
     exact⟨o,e,ex.2.1⟩
 |_=>exact False.elim ty
def K0(K:PySem.W.Frag)(T:String)(r:V->List V->Hp->VK->Prop)(to:TE):TE:=fun σ H Q=>to σ H fun x H1=>tyV K T x H1 /\ r x [] H1 Q
def tBM(K:PySem.W.Frag)(T:String)(r:V->List V->Hp->VK->Prop)(to:TE)(t:TA):TE:=fun σ H Q=>to σ H fun x H1=>tyV K T x H1 /\ t σ H1 fun xs H2=>r x xs H2 Q
variable{o e:Expr}{es:List Expr}{to:TE}{t:TA}{name:Str}{apos cpos:Pos}{T id:String}{r:V->List V->Hp->VK->Prop}
theorem Mi(pa:PlainAttrs T)(slot:Slot T name id)(hty:typeOf (.builtin id)=pure (.type "method_descriptor"))(hm:MtR X id r)(ho:PE X o to)
  (hbase:attributeBase o name X.env (eval o X.env)=eval o X.env:=by rfl) (hline:(apos.endLine==cpos.line)=true:=by rfl):PE X (.Call (.Attribute o name apos) [] [] cpos) (K0 X.K T r to):=by
 intro pins s σ H Q I h;refine wpAny_Call_method0_late hbase hline (thn (ho pins s σ H _ I h) fun v s1 ⟨x,H1,I1,r1,ty,q1⟩=>?_);obtain⟨h1,h2⟩:=Fj I1 r1 ty
 exact⟨T,id,pa,slot,hty,h1,h2,Calls.callWith_builtin rfl (PySem.evalArgs_none (hm pins s1 σ H1 x [] v [] Q I1 r1 .nil q1))⟩
theorem Nn(pa:PlainAttrs T)(slot:Slot T name id)(hty:typeOf (.builtin id)=pure (.type "method_descriptor"))(hm:MtR X id r)(ho:PE X o to)(ha:PA X (e ::es) t)
  (hbase:attributeBase o name X.env (eval o X.env)=eval o X.env:=by rfl)
  (hfew:((backTo cpos (starEach (e ::es) X.env)).all (fun x=>!x.1)&&(backToKw cpos (keywordEach [] X.env)).all (fun x=>x.1.isSome)
    && decide ((e ::es).length+([]:List Keyword).length+(if([]:List Keyword).isEmpty then 0 else 1)<30))=true:=by rfl)
  (hline:(apos.endLine==cpos.line)=true:=by rfl) (hs:starEach (e ::es) X.env=(false,eval e X.env) ::starEach es X.env:=by rfl) (hplain:(backTo cpos (starEach es X.env)).any (·.1)=false:=by rfl):
  PE X (.Call (.Attribute o name apos) (e ::es) [] cpos) (tBM X.K T r to t):=by
 intro pins s σ H Q I h;refine wpAny_Call_method_late hbase hfew hline rfl (thn (ho pins s σ H _ I h) fun v s1 ⟨x,H1,I1,r1,ty,q1⟩=>?_);obtain⟨h1,h2⟩:=Fj I1 r1 ty
 refine⟨T,id,pa,slot,hty,h1,h2,?_⟩
 have hA:=ha cpos pins s1 σ H1 _ I1 q1
 rw[hs]at hA ⊢
 refine Calls.callWith_builtin (by show(false||(backTo cpos (starEach es X.env)).any (·.1))=false;rw[hplain]<;>rfl) (Calls.evalArgs_plain ?_)
 exact thn hA fun us s2 ⟨vs,H2,I2,r2,q2⟩=>hm pins s2 σ H2 x vs v us Q I2 r1 r2 q2
end
def MtM(X:Cx)(id:String)(r:V->List V->Hp->VK->Prop):Prop:=
 ∀(pins:List (Addr×Obj)) (s:Shared) (σ:St) (H:Hp) (x:V) (xs:List V) (v:Value) (us:List Value) (Q:VK),Inv X pins σ H s->RelV x v->Vals xs us->r x xs H Q ->
   wpAny (model X.prog X.w) X.A (call (.builtin id) (v ::us)) (EP X pins σ Q) X.xe s
theorem Vals.one:∀{x:V} {us:List Value},Vals [x] us->∃ u,us=[u] /\ RelV x u
 |_,_,.cons r .nil=>⟨_,rfl,r⟩
theorem Vals.two:∀{x y:V} {us:List Value},Vals [x,y] us->∃ u v,us=[u,v] /\ RelV x u /\ RelV y v
 |_,_,_,.cons r (.cons q .nil)=>⟨_,_,rfl,r,q⟩
theorem Vals.zero:∀{us:List Value},Vals [] us->us=[]
 |_,.nil=>rfl
theorem Vals.dropLast{xs:List V}{us:List Value}(h:Vals xs us):Vals xs.dropLast us.dropLast:=by
 induction h with
 |nil=>exact .nil
 | cons r t ih=>
   cases t with
   |nil=>exact .nil
   |cons q t'=>exact .cons r ih
theorem Vals.eraseIdx:∀{xs:List V} {us:List Value} (i:Nat),Vals xs us->Vals (xs.eraseIdx i) (us.eraseIdx i)
 |_,_,_,.nil=>.nil
 |_,_,0,.cons _ t=>t
 |_,_,i+1,.cons r t=>.cons r (Vals.eraseIdx i t)
theorem Bl{α:Type}(l:List α):l.eraseIdx (l.length - 1)=l.dropLast:=by
 induction l with
 |nil=>rfl
 | cons a r ih=>
   cases r with
   |nil=>rfl
   | cons b r=>
     have e:(a ::b ::r).length - 1=((b ::r).length - 1)+1:=by
      have h1:(a ::b ::r).length=r.length+2:=rfl
      have h2:(b ::r).length=r.length+1:=rfl
      omega
     rw[e,List.eraseIdx_cons_succ,ih]
     all_goals rfl
section
variable{X:Cx}{pins:List (Addr×Obj)}{σ:St}{H:Hp}{s:Shared}{l b:Addr}{xs ys zs:List V}
theorem Inv.Lh{its its':List Value}{f:Array Value->Array Value}(I:Inv X pins σ H s)(hH:H l=some (.lst xs))
  (e:s.heap.get? l=some { cls:=.type "list",data:=.seq its.toArray n }) (hf:f its.toArray=its'.toArray) (hv:Vals ys its') (hz:ys.length<=sizeLine):
  Inv X pins σ (upd H l (.lst ys)) { s with heap:=s.heap.update l (Obj.mapSeq f),toks:=t' }:=by
 have q:=PySem.IsL.update e f;rw[hf]at q;refine I.write (x:=l) (e:=l) (by rw[hH];exact trivial) (.inl rfl) (fun b' u hb hu=>(Heap.get?_update_other s.heap (Obj.mapSeq f) (Ne.symm hb)).trans hu) ⟨_,q⟩ ?_
 exact⟨hz,its',_,hv,q⟩
theorem Inv.GR{its:List Value}(I:Inv X pins σ H s)(hv:Vals ys its)(hz:ys.length<=sizeLine):
  Inv X pins σ (upd H s.heap.objs.size (.lst ys)) { s with heap:=s.heap.push { cls:=.type "list",data:=.seq its.toArray },toks:=t' }:=
 I.laid (fun _ _ q=>Heap.get?_push_of_some _ q) (Nat.le_refl _) ⟨hz,its,0,hv,Heap.get?_push_size _ rfl⟩
theorem Inv.fresh(I:Inv X pins σ H s):H s.heap.objs.size=none:=I.hok.fresh (Nat.le_refl _)
theorem Inv.Le(I:Inv X pins σ H s)(hH:H l=some (.lst xs)):xs.length<=sizeLine /\ ∃(its:List Value) (n:Nat),Vals xs its /\ xs.length=its.length /\ s.heap.get? l=some { cls:=.type "list",data:=.seq its.toArray n }:=by
 obtain⟨z,its,n,r,e⟩:=I.hok l _ hH
 exact⟨z,its,n,r,r.length,e⟩
theorem EX(h:n<=sizeLine):Builtin.List.listTooLong n=false:=by
 unfold Builtin.List.listTooLong;exact decide_eq_false (by omega)
end
section
variable{X:Cx}
def yy:V->List V->Hp->VK->Prop:=fun x vs H Q=>∃ l xs y,x=.ref l /\ vs=[y] /\ H l=some (.lst xs) /\ xs.length<sizeLine /\ Q .non (upd H l (.lst (xs++[y])))
theorem b7:MtM X "list.append" yy:=by
 intro pins s σ H x vs v us Q I rx rv h;obtain⟨l,xs,y,rfl,rfl,hH,hz,q⟩:=h;cases rx;obtain⟨u,rfl,ru⟩:=rv.one;obtain⟨z,its,n,r,hl,e⟩:=I.Le hH;refine call_meets F.slot_list_append ⟨_,e,rfl⟩ F.entry_list_append (F.args_list_append_2 _ _) (PySem.list_append l its.toArray n u (by rw[List.size_toArray];omega)) ⟨e,?_⟩
 refine⟨.non,_,I.Lh (its':=its++[u]) hH e (by simp) (r.append (.cons ru .nil)) ?_,rfl,q⟩
 rw[List.length_append,List.length_singleton];omega
def MI:V->List V->Hp->VK->Prop:=fun x vs H Q=>∃ l xs y,x=.ref l /\ vs=[] /\ H l=some (.lst xs) /\ xs[xs.length - 1]?=some y /\ Q y (upd H l (.lst xs.dropLast))
theorem Bv:MtM X "list.pop" MI:=by
 intro pins s σ H x vs v us Q I rx rv h;obtain⟨l,xs,y,rfl,rfl,hH,hy,q⟩:=h;cases rx;have hus:=rv.zero;subst hus;obtain⟨z,its,n,r,hl,e⟩:=I.Le hH;obtain⟨u,hu,ru⟩:=r.get hy
 have hy':its.toArray[its.toArray.size - 1]?=some u:=by
  show its.toArray[its.length - 1]?=some u;rw[<- Array.getElem?_toList,<- hl];exact hu
 refine call_meets F.slot_list_pop ⟨_,e,rfl⟩ F.entry_list_pop (F.args_list_pop_1 _) (MeetsSeq.list_pop_last l its.toArray n u hy' (by rw[List.size_toArray];omega)) ⟨e,?_⟩
 refine⟨y,_,I.Lh (its':=its.dropLast) hH e ?_ r.dropLast ?_,ru,q⟩
 . show its.toArray.eraseIdxIfInBounds (its.toArray.size - 1)=its.dropLast.toArray;rw[List.size_toArray,List.eraseIdxIfInBounds_toArray,Bl]
 . rw[List.length_dropLast];omega
end
section
variable{prog:Program}{w:World}{A:Around}{E:Value->Shared->Prop}{s:Shared}
set_option maxRecDepth 100000 in
end
end L2
namespace Att
open PySem PySem.W PySem.Calls PyProof.Rows
theorem vn:∀(ns:List Int) (vs:List Value),WellAll P h vs (ns.map WData.int)->IntsAre vs ns:=by
 intro ns
 induction ns with
 | nil=>
   intro vs w;rw[List.map_nil]at w;cases w;exact .nil
 | cons n ns ih=>
   intro vs w;rw[List.map_cons]at w
   cases w with
   | cons a b=>
     cases a;exact .cons _ _ (ih _ b)
theorem DO{l:OpenLaw}(hn:l.most=some n){h:Heap}
  (hpre:l.row.toRowW.claim.pre args=true) (hwl:WellAll P h vals args):
  ∃ a vs ns,vals=[Value.ref a] /\ args=[WData.list (ns.map WData.int)] /\ h.get? a=some { cls:=.type "list",data:=.seq vs.toArray } /\ IntsAre vs ns /\ ns.length<=n:=by
 have hsh:WShape.hasAll [] args [.list .int]=true:=(pre_splitW hpre).1
 have hc:l.pre.holds [] { args:=args }=true:=(pre_splitW hpre).2
 obtain⟨d,r,rfl,h1,h2⟩:=hasAllW_cons hsh
 obtain rfl:=hasAllW_nil h2
 obtain⟨xs,rfl,h3⟩:=hasW_list h1;obtain⟨ns,rfl⟩:=items_int h3
 have hlen:ns.length<=n:=by
  unfold OpenLaw.pre at hc
  have h4:(WTm.not (.lt (.lit (.int (n:Int))) (.len (.arg 0)))).holds [] { args:=[.list (ns.map .int)] }=true:=by
   have h4:=(holds_andW hc).1;rw[hn]at h4;exact h4
  have h5:=condW_of h4 (w_not (w_lt w_lit (w_len_list (w_arg rfl))));rw[List.length_map]at h5
  refine Nat.le_of_not_lt fun q=>?_
  have q':(n:Int)<((ns.length:Nat):Int):=by omega
  first
   |(rw[decide_eq_true q']at h5;exact absurd h5 (by decide))
   |(simp at h5;omega)
 cases hwl with
 | cons w1 w2=>
   cases w2
   cases w1 with
   |list ho hall=>exact⟨_,_,ns,rfl,rfl,ho,vn ns _ hall,hlen⟩
theorem Dj(l:OpenLaw)(args:List WData):l.row.toRowW.claim.post args (.bool true) args=true:=
 postW_of (r:=l.row.toRowW) (X:=(true==true))
  (show WShape.has [] (.bool true) .bool=true by first|rfl|decide|simp[WShape.has,WShape.arms,WShape.armsAll])
  (show(WTm.eq .res (.lit (.bool true))).value [] { args:=args,res:=some (.bool true),after:=args }=some (.bool (true==true)) from w_eq_bool (w_res rfl) w_lit) rfl
theorem zP{l:OpenLaw}{XP:(Str->Option Value)->Heap->Prop}{YP:World->Heap->Prop}{d:DefRec}
  (hn:l.most=some n) (hdf:d.params.defaults=[])
  (call:∀(w:World) (s₀ s₁:Shared) (mg mb:Str->Option Value) (fa:Addr) (o:Obj) (pm cd doc:Value) (a:Addr) (vs:List Value) (ns:List Int),
    Ground q loose [] XP w s₀ mg mb s₁.heap->YP w s₁.heap ->
    s₁.heap.get? fa=some o->o.data=.func (docDef d.name d.params d.body d.scope pm cd doc)->s₁.heap.CodeRec cd d.name->mg d.name=some (.ref fa) ->
    s₁.heap.get? a=some { cls:=.type "list",data:=.seq vs.toArray }->IntsAre vs ns->ns.length<=n->s₁.gens=#[] ->
    codeAny (model l.prog w) callerA (.call (.ref fa) ⟨[.ref a],[]⟩) (fun r s'=>r=.ok (.ret (.bool true)) /\ OldK s₁.heap s'.heap /\ s'.os=s₁.os /\ AllBare s'.gens) s₁):
  WalkO q loose XP YP l.row.toRowW d [] (fun f vs=>PySem.call f vs):=by
 intro w s₀ s₁ mg mb G Y fa o pm cd doc dV kV ho hd hcd hD hmg hg args vals as hpre hlay hrd hwl hlo
 obtain rfl:dV=.none:=Dflts.none hD hdf
 obtain rfl:kV=.none:=Dflts.noKw hD
 obtain⟨a,vs,ns,rfl,rfl,hobj,hints,hlen⟩:=DO hn hpre hwl;refine enter_call (codeAny_mono (call w s₀ s₁ mg mb fa o pm cd doc a vs ns G Y ho (fd_plain hd) hcd hmg hobj hints hlen hg) fun r s' hq=>?_);obtain⟨rfl,h2,h3,h4⟩:=hq
 exact⟨.inl ⟨.bool true,.bool true,[],rfl,fun _=>rfl,.bool true,Dj l _,fun _=>⟨List.Pairwise.nil,fun _ hm=>(nomatch hm)⟩⟩,h2,h3,h4⟩
end Att
namespace L2
open PySem PySem.Spec PyProof.Rows
theorem xX:∀{vs:List Value} {ns:List Int},IntsAre vs ns->Vals (ns.map V.int) vs
 |_,_,.nil=>.nil
 |_,_,.cons n t h=>.cons ⟨t,rfl⟩ (xX h)
def LG(H:Hp):Prop:=∀ b,H b=none \/ ∃ o xs,H b=some (.frz o (.lst xs))
theorem Fx{K:PySem.W.Frag}{mg mb:Str->Option Value}{s₁:Shared}{vs:List Value}{ns:List Int}
  (KX:K.In s₁.heap) (hns:s₁.heap.Ns mainGlobals mg) (hb:s₁.heap.Ns builtinsNs mb) (hbb:∀ x:Str,x ≠ "__name__" -> mb x=bootBuiltins x) (hlim:s₁.heap.NoLimit) (hg:s₁.gens=#[])
  (ha:s₁.heap.get? a=some { cls:=.type "list",data:=.seq vs.toArray }) (hi:IntsAre vs ns) (hl:ns.length<=sizeLine) (hr:iK k callerA)
  (F:∀ base:Heap,K.In base->base.Ns mainGlobals mg->cx P w K mg base CX k fa fd [x] sp) (hbind:∀(s:Shared) (u:Value),BindsTo s fd ⟨[u],[]⟩ [(x,u)])
  (hsp:∀ H:Hp,LG H->SqL K H a (ns.map V.int)->sp [.ref a] H (fun v _=>v=.bl true) fun _ _ _=>False)
  (hCX:∀ H e s',CX [] H s₁ (fun _ _ _=>False) e s'->False):
  codeAny (model P w) callerA (.call (.ref fa) ⟨[.ref a],[]⟩) (fun r s'=>r=.ok (.ret (.bool true)) /\ OldK s₁.heap s'.heap /\ s'.os=s₁.os /\ AllBare s'.gens) s₁:=by
 have rv:=xX hi;have lenV:=hi.length
 have core:∀ H:Hp,LG H->SqL K H a (ns.map V.int)->HOk P w H s₁.heap->(∀ b,H b≠none->b=a)->(H a≠none->K.lookup a=none) ->
   codeAny (model P w) callerA (.call (.ref fa) ⟨[.ref a],[]⟩) (fun r s'=>r=.ok (.ret (.bool true)) /\ OldK s₁.heap s'.heap /\ s'.os=s₁.os /\ AllBare s'.gens) s₁:=by
  intro H hO hS hok hA hK
  have base_of:∀{b:Addr} {o:Obj},s₁.heap.get? b=some o->H b=none->(ze s₁.heap H).get? b=some o:=fun e n=>Fe e n
  have noA:∀{b:Addr} {o:Obj} {es:Array DictEntry} {ep:Nat},s₁.heap.get? b=some o->o.data=.dict es ep->H b=none:=fun {b o es ep} e d=>by
   cases q:H b with
   |none=>rfl
   | some u=>
     have e':b=a:=hA b (by rw[q];simp)
     subst e';rw[ha]at e;cases e
     have d':Data.seq vs.toArray _=Data.dict es ep:=d
     cases d'
  have nsK:∀{b:Addr} {m:Str->Option Value},s₁.heap.Ns b m->(ze s₁.heap H).Ns b m:=fun {b m} ⟨o,es,ep,e,d,r⟩=>⟨o,es,ep,base_of e (noA e d),d,r⟩
  have hKb:K.In (ze s₁.heap H):=fun b o e=>base_of (KX b o e) (by
   cases q:H b with
   |none=>rfl
   | some u=>
     have e':b=a:=hA b (by rw[q];simp)
     subst e'
     rw[hK (by rw[q];simp)]at e;cases e)
  have hM:Mod K mg (ze s₁.heap H):=⟨hKb,nsK hns,⟨mb,nsK hb,hbb⟩,let ⟨mc,h1,h2⟩:=hlim;⟨mc,nsK h1,h2⟩⟩
  have e0:B2 P w K mg (ze s₁.heap H) callerA [] s₁ H:=⟨rfl,hM,fun b o e=>Ia e,Nat.le_of_eq (DA _ _),trivial,fun b hb=>absurd (show b∈([]:List Addr) from hb) (by simp),hok,.of_eq hg⟩
  refine codeAny_mono ((F _ hKb (nsK hns)).run callerA [] s₁ H ⟨[.ref a],[]⟩ [.ref a] [.ref a] _ _ hr e0 (hbind s₁ (.ref a)) (.cons rfl .nil) (hsp H hO hS)) fun r s' h=>?_
  cases r with
  |error e=>exact(hCX H e s' h).elim
  | ok fl=>
    cases fl with
    |next=>exact False.elim h
    |brk=>exact False.elim h
    |cont=>exact False.elim h
    | ret u=>
      obtain⟨v,H',os,bare,un,hok',r',q⟩:=h
      have q':v=.bl true:=q
      subst q'
      obtain rfl:u=Value.bool true:=r'
      refine⟨rfl,OldK.of_keep fun b o e=>?_,os,bare⟩
      cases q:H b with
      |none=>exact un.keep b o e q (by intro z;exact absurd (show b∈([]:List Addr) from z) (by simp)) (by simp)
      | some u=>
        rcases hO b with z|⟨ob,xs,z⟩
        . rw[q]at z;cases z
        . have z2:=un.frzs b ob _ z;obtain⟨e1,_⟩:=hok b _ z;obtain⟨e2,_⟩:=hok' b _ z2;rw[e]at e1;cases e1;exact e2
 cases hk:K.lookup a with
 | some o=>
   have e:=KX a o hk;rw[ha]at e;cases e
   refine core (fun _=>none) (fun _=>.inl rfl) (.inr ⟨_,vs.toArray,_,hk,rfl,rfl,rfl,by rw[List.size_toArray,lenV];exact hl,by simpa using rv⟩) (fun b u z=>by have z':(none:Option HO)=some u:=z;cases z') (fun b z=>absurd rfl z) fun z=>absurd rfl z
 | none=>
   refine core (fun b=>if b=a then some (.frz { cls:=.type "list",data:=.seq vs.toArray } (.lst (ns.map V.int)))else none) (fun b=>?_) (.inl (.inr ⟨{ cls:=.type "list",data:=.seq vs.toArray },if_pos rfl⟩)) (fun b u z=>?_) (fun b z=>?_) fun _=>hk
   . by_cases hb:b=a
     . exact .inr ⟨_,_,if_pos hb⟩
     . exact .inl (if_neg hb)
   . by_cases hb:b=a
     . have z':=(if_pos hb).symm.trans z
       cases z'
       subst hb
       exact⟨ha,by rw[List.length_map];exact hl,vs,_,rv,ha⟩
     . have z':=(if_neg hb).symm.trans z
       cases z'
   . by_cases hb:b=a
     . exact hb
     . exact absurd (if_neg hb) z
abbrev KOf{K:PySem.W.Frag}{h:Heap}(_:K.In h):PySem.W.Frag:=K
theorem GX{l:PySem.W.OpenLaw}{XP:(Str->Option Value)->Heap->Prop}{YP:World->Heap->Prop}{d:DefRec}{K:Params->PySem.W.Frag}{CX:World->CXT}{sp:World->Sp}
  (hn:l.most=some n) (hn2:n<=sizeLine) (hdf:d.params.defaults=[]) (hr:iK k callerA)
  (hY:∀(w:World) (h:Heap),YP w h->(K w.params).In h)
  (F:∀(w:World) (mg:Str->Option Value) (fa:Addr) (h:Heap),(K w.params).In h->h.Ns mainGlobals mg->mg d.name=some (.ref fa) ->
    ∃ fd:FuncData,(∀(s:Shared) (u:Value),BindsTo s fd ⟨[u],[]⟩ [(x,u)]) /\
      ∀ base:Heap,(K w.params).In base->base.Ns mainGlobals mg->cx l.prog w (K w.params) mg base (CX w) k fa fd [x] (sp w))
  (hsp:∀(w:World) (H:Hp) (a:Addr) (ns:List Int),ns.length<=n->LG H->SqL (K w.params) H a (ns.map V.int)->sp w [.ref a] H (fun v _=>v=.bl true) fun _ _ _=>False)
  (hCX:∀(w:World) (H:Hp) (s:Shared) (e:Value) (s':Shared),CX w [] H s (fun _ _ _=>False) e s'->False):
  PySem.W.WalkO q loose XP YP l.row.toRowW d [] (fun f vs=>PySem.call f vs):=by
 refine Att.zP hn hdf fun w s₀ s₁ mg mb fa o pm cd doc a vs ns G Y ho hd hcd hmg hobj hints hlen hg=>?_
 have KX:=hY w _ Y;obtain⟨fd,hb,hF⟩:=F w mg fa _ KX G.T.g hmg
 exact Fx KX G.T.g G.T.b G.T.builtins G.T.nolimit hg hobj hints (Nat.le_trans hlen hn2) hr hF hb (fun H hO hS=>hsp w H a ns hlen hO hS) fun H e s'=>hCX w H s₁ e s'
def inClass(s:Stmt)(j:Nat):Stmt:=match s with
 |.ClassDef _ _ _ body _ _ _ _ _ _ _=>body.getD j (.Pass ⟨0,0,0,0⟩)
 |_=>.Pass ⟨0,0,0,0⟩
def fe(s:Stmt):Arguments:=match s with
 |.FunctionDef _ a _ _ _ _ _ _ _ _=>a
 |_=>{ posonlyargs:=[],args:=[],vararg:=none,kwonlyargs:=[],kw_defaults:=[],kwarg:=none,defaults:=[] }
def dO(s:Stmt):List Stmt:=match s with
 |.FunctionDef _ _ b _ _ _ _ _ _ _=>b
 |_=>[]
def aA(s:Stmt):Scope:=match s with
 |.FunctionDef _ _ _ _ _ _ sc _ _ _=>sc
 |_=>{ kind:=.function,names:=[],isGenerator:=false,isCoroutine:=false }
structure Fun(K:PySem.W.Frag)(x qual:Str)(st:Stmt)(f:Addr)(fd:FuncData):Prop where
 ex:∃(oc:Value) (od:Option Addr) (kV doc pm:Value) (an:Option Addr) (cdv ct:Value) (osl:Array (Option Value)),
  fd=PySem.W.fnOf x qual (fe st) (dO st) (aA st) .none kV doc pm an cdv ct /\ K.lookup f=some ⟨oc,od,.func fd,osl⟩ /\ PySem.W.codeIn K cdv qual=true
 kp:PySem.W.keepIn K (.ref f)=true
section
variable{P:Program}{w:World}{K:PySem.W.Frag}{mg:Str->Option Value}{base:Heap}
theorem Fun.binds{x qual:Str}{st:Stmt}{f:Addr}{fd:FuncData}{ps:List Str}(F:Fun K x qual st f fd)
  (h:∀(kV doc pm:Value) (an:Option Addr) (cdv ct:Value) (us:List Value),us.length=ps.length->bindArgs (PySem.W.fnOf x qual (fe st) (dO st) (aA st) .none kV doc pm an cdv ct) ⟨us,[]⟩=pure (ps.zip us)):Binds K fd ps []:=by
 obtain⟨oc,od,kV,doc,pm,an,cdv,ct,osl,rfl,lk,hcd⟩:=F.ex;exact .all (h kV doc pm an cdv ct)
theorem mj{x qual:Str}{st:Stmt}{f:Addr}{oc:Value}{od an:Option Addr}{osl:Array (Option Value)}{kV doc pm cdv ct:Value}(l:K.lookup f=some ⟨oc,od,.func (PySem.W.fnOf x qual (fe st) (dO st) (aA st) .none kV doc pm an cdv ct),osl⟩)
  (c:PySem.W.codeIn K cdv qual=true) (k:PySem.W.keepIn K (.ref f)=true):Fun K x qual st f (PySem.W.fnOf x qual (fe st) (dO st) (aA st) .none kV doc pm an cdv ct):=⟨⟨oc,od,kV,doc,pm,an,cdv,ct,osl,rfl,l,c⟩,k⟩
end
theorem JG{A:Around}(hr:iK k A):A.units+1<cLine:=Nat.lt_of_le_of_lt (Nat.add_le_add_left (by decide:1<=64) _) hr.units
section
variable{X:Cx}
theorem pv(i:Nat)(hN:X.N[i]?=some x:=by rfl)(hv:Vis X.env.scope x:=by first|exact Or.inl rfl|exact Or.inr (Or.inl rfl)|exact Or.inr (Or.inr rfl))(hd:(x==("__debug__":Str))=false:=by decide)
  (hcd:(x==("__classdict__":Str))=false:=by decide):PE X (.Name x pos) (AX i):=K6 hN hv hd hcd
end
theorem zF{A B:Prop}(h:B):if false=true then A else B:=by
 rw[if_neg Bool.false_ne_true];exact h
theorem Aq{A B:Prop}(h:A):if true=true then A else B:=by
 rw[if_pos rfl];exact h
def aK(H H':Hp):Prop:=∀ b o,H b=some o->H' b=some o
theorem aK.refl(H:Hp):aK H H:=fun _ _ h=>h
theorem aK.trans(a:aK H H1)(b:aK H1 H2):aK H H2:=fun c o h=>b c o (a c o h)
theorem aK.free(e:aK H H')(h:H' l=Option.none):H l=Option.none:=by
 cases q:H l with
 |none=>rfl
 | some o=>
   rw[e l o q]at h;cases h
theorem aK.seq{K:PySem.W.Frag}(e:aK H H')(h:SqL K H a xs):SqL K H' a xs:=by
 rcases h with(h|⟨o,h⟩)|h
 . exact .inl (.inl (e _ _ h))
 . exact .inl (.inr ⟨o,e _ _ h⟩)
 . exact .inr h
section
variable{κ:Type}[DecidableEq κ]
def nL(kvs:List (κ×V))(k:κ):Option V:=(kvs.find? fun kv=>decide (kv.1=k)).map (·.2)
def putK(kvs:List (κ×V))(k:κ)(v:V):List (κ×V):=
 if(kvs.any fun kv=>decide (kv.1=k))=true then kvs.map (fun kv=>if kv.1=k then(kv.1,v)else kv)else kvs++[(k,v)]
theorem wW{p:κ×V}{r:List (κ×V)}{k:κ}(e:p.1=k):nL (p ::r) k=some p.2:=by simp[nL,List.find?_cons,e]
theorem vV{p:κ×V}{r:List (κ×V)}{k:κ}(e:¬ p.1=k):nL (p ::r) k=nL r k:=by simp[nL,List.find?_cons,e]
theorem Ba(k:κ):∀ kvs:List (κ×V),(kvs.any fun kv=>decide (kv.1=k))=(nL kvs k).isSome
 |[]=>rfl
 | p ::r=>by
   rw[List.any_cons]
   by_cases e:p.1=k
   . simp only[wW e,decide_eq_true e,Bool.true_or,Option.isSome_some]
   . rw[vV e,decide_eq_false e,Bool.false_or];exact Ba k r
theorem AK(kvs:List (κ×V))(k:κ)(v:V):(putK kvs k v).length<=kvs.length+1:=by
 unfold putK;split
 . rw[List.length_map];omega
 . rw[List.length_append,List.length_cons,List.length_nil];omega
theorem F8{kvs:List (κ×V)}{k:κ}(v:V)(h:nL kvs k=none):putK kvs k v=kvs++[(k,v)]:=by
 unfold putK;rw[Ba,h];exact if_neg (by decide)
theorem bz.xW{o:Option V}{u:Option Value}(r:bz o u):o.isSome=u.isSome:=by
 cases o with
 | none=>cases u with
   |none=>rfl
   |some _=>exact(show False from r).elim
 | some _=>cases u with
   |none=>exact(show False from r).elim
   |some _=>rfl
theorem bz.getD{o:Option V}{u:Option Value}(r:bz o u)(rd:RelV d d'):RelV (o.getD d) (u.getD d'):=by
 cases o with
 | none=>cases u with
   |none=>exact rd
   |some _=>exact(show False from r).elim
 | some _=>cases u with
   |none=>exact(show False from r).elim
   |some _=>exact r
theorem KV.val{kvs:List (κ×V)}{vs:List (κ×Value)}(r:KV kvs vs)(k:κ):bz (nL kvs k) (valueAt vs k):=by
 unfold KV at r
 induction r with
 |nil=>exact True.intro
 | @cons p q ps qs h t ih=>
   obtain⟨h1,h2⟩:=h
   by_cases e:p.1=k
   . have e':q.1=k:=h1.symm.trans e
     have b:valueAt (q ::qs) k=some q.2:=by simp[valueAt,List.find?_cons,e']
     rw[wW e,b];exact h2
   . have e':¬ q.1=k:=fun z=>e (h1.trans z)
     have b:valueAt (q ::qs) k=valueAt qs k:=by simp[valueAt,List.find?_cons,e']
     rw[vV e,b];exact ih
theorem KV.any{kvs:List (κ×V)}{vs:List (κ×Value)}(r:KV kvs vs)(k:κ):(kvs.any fun kv=>decide (kv.1=k))=vs.any fun kv=>decide (kv.1=k):=by
 unfold KV at r
 induction r with
 |nil=>rfl
 |cons h t ih=>rw[List.any_cons,List.any_cons,ih,h.1]
theorem KV.Oi{kvs:List (κ×V)}{vs:List (κ×Value)}(r:KV kvs vs)(k:κ)(ry:RelV y u):
  KV (kvs.map fun kv=>if kv.1=k then(kv.1,y)else kv) (vs.map fun kv=>if kv.1=k then(kv.1,u)else kv):=by
 unfold KV at r ⊢
 induction r with
 |nil=>exact .nil
 | @cons p q ps qs h t ih=>
   rw[List.map_cons,List.map_cons];refine .cons ?_ ih;obtain⟨h1,h2⟩:=h
   by_cases e:p.1=k
   . rw[if_pos e,if_pos (h1.symm.trans e)];exact⟨h1,ry⟩
   . rw[if_neg e,if_neg (fun z=>e (h1.trans z))];exact⟨h1,h2⟩
theorem KV.put{kvs:List (κ×V)}{vs:List (κ×Value)}(r:KV kvs vs)(k:κ)(ry:RelV y u):KV (putK kvs k y) (stored vs k u):=by
 unfold putK stored;rw[r.any k]
 by_cases e:(vs.any fun kv=>decide (kv.1=k))=true
 . rw[if_pos e,if_pos e];exact r.Oi k ry
 . rw[if_neg e,if_neg e];exact Paired.snoc r ⟨rfl,ry⟩
theorem KV.keys{kvs:List (κ×V)}{vs:List (κ×Value)}(r:KV kvs vs):kvs.map (·.1)=vs.map (·.1):=by
 unfold KV at r
 induction r with
 |nil=>rfl
 |cons h t ih=>rw[List.map_cons,List.map_cons,ih,h.1]
end
theorem CJ(r:RelV (kV k) u):(gf P w).is k u=true:=by
 cases k with
 |inl i=>obtain⟨t,e⟩:=(show ∃ t,u=Value.int i t from r);subst e;exact zD P w i t
 |inr x=>obtain⟨t,e⟩:=(show ∃ t,u=Value.str x t from r);subst e;exact A7 P w x t
theorem x9:∀{ks:List Key} {us:List Value},Vals (ks.map kV) us->ItemsAre (gf P w) ks us
 |[],_,r=>by rw[List.map_nil]at r;cases r;exact .nil
 | k ::ks,_,r=>by
   rw[List.map_cons]at r
   cases r with
   |cons h t=>exact .cons (CJ h) (x9 t)
abbrev KT(H:Hp):List (List Key×V)->List (List Key×Addr×Value)->Prop:=Paired fun p q=>p.1=q.1 /\ H q.2.1=some (.tup (p.1.map kV)) /\ RelV p.2 q.2.2
theorem KT.val{kvs:List (List Key×V)}{xs:List (List Key×Addr×Value)}(r:KT H kvs xs)(k:List Key):bz (nL kvs k) ((atKey xs k).map (·.2)):=by
 induction r with
 |nil=>exact True.intro
 | @cons p q ps qs h t ih=>
   obtain⟨h1,_,h2⟩:=h
   by_cases e:p.1=k
   . have e':q.1=k:=h1.symm.trans e
     have b:atKey (q ::qs) k=some q.2:=by simp[atKey,List.find?_cons,e']
     rw[wW e,b];exact h2
   . have e':¬ q.1=k:=fun z=>e (h1.trans z)
     have b:atKey (q ::qs) k=atKey qs k:=by simp[atKey,List.find?_cons,e']
     rw[vV e,b];exact ih
theorem KT.keeps{kvs:List (List Key×V)}{xs:List (List Key×Addr×Value)}(r:KT H kvs xs)(ht:∀ b ys,H b=some (.tup ys)->H' b=some (.tup ys)):KT H' kvs xs:=
 Paired.K8 r fun _ _ z=>⟨z.1,ht _ _ z.2.1,z.2.2⟩
section
variable{P:Program}{w:World}{H:Hp}{h:Heap}{a:Addr}
theorem JI(ok:HOk P w H h)(e:Rd H a u):gD P w H h a u:=e.ok ok
theorem C4{kvs:List (Key×V)}(ok:HOk P w H h)(e:Rd H a (.dK kvs)):kvs.length<=sizeLine /\ (a==sysModules)=false /\ ∃ vs,KV kvs vs /\ h.DictOf (gf P w) a vs:=
 show gD P w H h a (.dK kvs) from JI ok e
theorem M8{kvs:List (Key×V)}(ok:HOk P w H h)(e:H a=some (.dK kvs)):kvs.length<=sizeLine /\ (a==sysModules)=false /\ ∃ vs,KV kvs vs /\ h.DictOf (gf P w) a vs:=C4 ok (.inl e)
theorem BZ{ks:List Key}(ok:HOk P w H h)(e:H a=some (.tup (ks.map kV))):(tupleKind (gf P w)).is h ks a:=by
 obtain⟨_,its,r,o,h1,h2,n,h3⟩:=(show gD P w H h a (.tup (ks.map kV)) from ok a _ e)
 exact⟨o,its.toArray,n,h1,h2,h3,by simpa using x9 r⟩
theorem Ew{kvs:List (List Key×V)}(ok:HOk P w H h)(e:Rd H a (.dT kvs)):kvs.length<=sizeLine /\ (a==sysModules)=false /\
  ∃ xs,KT H kvs xs /\ h.DictOfH (tupleKind (gf P w)) a xs:=by
 obtain⟨z,y,xs,r,o,es,ep,h1,h2,h3,h4,h5⟩:=(show gD P w H h a (.dT kvs) from JI ok e)
 refine⟨z,y,xs,r,o,es,ep,h1,h2,h3,h4,fun x hx=>?_,h5⟩
 have all:∀{l:List (List Key×V)} {m:List (List Key×Addr×Value)},KT H l m->∀ x∈m,(tupleKind (gf P w)).is h x.1 x.2.1:=by
  intro l m q
  induction q with
  |nil=>intro x hx;exact nomatch hx
  | @cons p q ps qs hq t ih=>
    intro x hx
    rcases List.mem_cons.mp hx with e|hx
    . subst e;exact BZ ok (by rw[<- hq.1];exact hq.2.1)
    . exact ih x hx
 exact all r x hx
end
def zt(H:Hp)(a:Addr)(y:V)(r:Option V):Prop:=
 (∃ kvs k,Rd H a (.dK kvs) /\ y=kV k /\ r=nL kvs k) \/ ∃ kvs k b,Rd H a (.dT kvs) /\ y=.ref b /\ H b=some (.tup (k.map kV)) /\ r=nL kvs k
theorem zt.k{H:Hp}{a:Addr}{kvs:List (Key×V)}{k:Key}(e:H a=some (.dK kvs)):zt H a (kV k) (nL kvs k):=.inl ⟨kvs,k,.inl e,rfl,rfl⟩
section
variable{X:Cx}{pins:List (Addr×Obj)}{σ:St}{H:Hp}{s:Shared}{a:Addr}{y v:V}{u r:Value}{o:Option V}{A:Around}{E:Value->Shared->Prop}
theorem Inv.big(I:Inv X pins σ H s):sysModules<s.heap.objs.size:=by
 have h:mainGlobals<s.heap.objs.size:=(I.mod.glob.keeps I.bk).lt
 exact Nat.lt_trans (by decide) h
theorem Dp{Q:Value->Shared->Prop}(hu:A.units+1<cLine)(I:Inv X pins σ H s)(g:zt H a y (some v))(ry:RelV y u)(h:∀ w' s',Inv X pins σ H s'->RelV v w'->Q w' s'):
  wpAny (model X.prog X.w) A (getItem (.ref a) u) Q E s:=by
 rcases g with⟨kvs,k,e,ey,l⟩|⟨kvs,k,b,e,ey,eb,l⟩
 . subst ey;obtain⟨z,hd,vs,rel,dd⟩:=C4 I.hok e;obtain⟨w',hw,rw'⟩:=bz.some_of (v:=v) (o:=valueAt vs k) (by rw[l];exact rel.val k);exact wpAny_getItem_of (CJ ry) dd.mapOf hw (h w' _ (I.tok _) rw')
 . subst ey
   cases(show u=Value.ref b from ry)
   obtain⟨z,hd,xs,rel,dd⟩:=Ew I.hok e;obtain⟨w',hw,rw'⟩:=bz.some_of (v:=v) (o:=(atKey xs k).map (·.2)) (by rw[l];exact rel.val k);obtain⟨p,hp,hp2⟩:=Option.map_eq_some_iff.mp hw;refine wpAny_getItem_heap (tupleKind_room_in1 hu) (BZ I.hok eb) dd hp ?_;rw[hp2];exact h w' _ (I.tok _) rw'
theorem Ol{Q:Value->Shared->Prop}(hu:A.units+1<cLine)(I:Inv X pins σ H s)(g:zt H a y o)(ry:RelV y u)(h:∀ s',Inv X pins σ H s'->Q (.bool o.isSome) s'):
  wpAny (model X.prog X.w) A (compareOp .In u (.ref a)) Q E s:=by
 rcases g with⟨kvs,k,e,ey,l⟩|⟨kvs,k,b,e,ey,eb,l⟩
 . subst ey;obtain⟨z,hd,vs,rel,dd⟩:=C4 I.hok e;refine wpAny_in_of (CJ ry) hd dd.mapOf ?_;rw[<- (rel.val k).xW,<- l];exact h _ (I.tok _)
 . subst ey
   cases(show u=Value.ref b from ry)
   obtain⟨z,hd,xs,rel,dd⟩:=Ew I.hok e;refine wpAny_in_heap (tupleKind_room_in1 hu) (BZ I.hok eb) hd dd ?_;have q:=(rel.val k).xW;rw[Option.isSome_map]at q;rw[<- q,<- l];exact h _ (I.tok _)
theorem HU{h':Heap}(I:Inv X pins σ H s)(mu:Mut (H a))(hs:Heap.SameBut a s.heap h')(he:∃ q,h'.get? a=some q)(new:gD X.prog X.w (upd H a ob) h' a ob):
  Inv X pins σ (upd H a ob) { s with heap:=h',toks:=t' }:=
 I.write (x:=a) (e:=a) mu (.inl rfl) (fun b q hb z=>(hs.2 b hb).trans z) he new
theorem Lr{h':Heap}{kvs:List (Key×V)}{vs:List (Key×Value)}(z:kvs.length<=sizeLine)(hd:(a==sysModules)=false)(rel:KV kvs vs)(dd:h'.DictOf (gf P w) a vs):
  gD P w H' h' a (.dK kvs):=⟨z,hd,vs,rel,dd⟩
end
def Lp(i:Expr):Prop:=∀ ov iv,subscripted i false ov iv=operate [ov,iv] (getItem ov iv)
theorem IA{prog:Program}{w:World}{A:Around}{E:Value->Shared->Prop}{s:Shared}{env:Env}{value slice:Expr}{pos:Pos}{T id:String}{Q:Value->Shared->Prop}
  (hl:typeLookup (.type T) "__getitem__" = pure (some (.builtin id))) (hs:Lp slice)
  (h:wpAny (model prog w) A (eval value env) (fun o s₁=>wpAny (model prog w) A (eval slice env) (fun i s₂=>s₂.TypeIs o T /\ wpAny (model prog w) A (getItem o i) Q E s₂) E s₁) E s):
  wpAny (model prog w) A (eval (.Subscript value slice pos) env) Q E s:=by
 refine Subscript_ (wpAny_mono h (fun o s₁ h₁=>wpAny_mono h₁ (fun i s₂ h₂=>?_) fun _ _ x=>x) fun _ _ x=>x);obtain⟨hT,h₂⟩:=h₂;unfold subscriptTail;refine wpAny_bind ?_;rw[getitemInPython_of_ne hT.not_modules];refine wpAny_bind (wpAny_specialOf hT hl ?_)
 have fin:wpAny (model prog w) A (subscripted slice false o i) (fun r s₃=>wpAny (model prog w) A (letTemporaryGo value o r >>= fun _=>pure r) Q E s₃) E s₂:=by
  rw[hs o i];exact wpAny_operating (wpAny_mono h₂ (fun r s₃ h₃=>wpAny_bind (wpAny_letTemporaryGo (wpAny_pure h₃))) fun _ _ x=>x)
 first
  |exact wpAny_pure (wpAny_bind fin)
  |exact wpAny_bind (wpAny_pure (wpAny_bind fin))
  |exact wpAny_bind fin
theorem Ad{pins:List (Addr×Obj)}{s:Shared}(I:Inv X pins σ H s)(g:zt H a y o):s.TypeIs (.ref a) "dict":=by
 rcases g with⟨kvs,k,e,_,_⟩|⟨kvs,k,b,e,_,_,_⟩
 . obtain⟨_,_,vs,_,dd⟩:=C4 I.hok e;exact dd.typeIs
 . obtain⟨_,_,xs,_,dd⟩:=Ew I.hok e;exact dd.typeIs
def Gf(td ty:TE):TE:=fun σ H Q=>td σ H fun x H1=>ty σ H1 fun y H2=>∃ a v,x=.ref a /\ zt H2 a y (some v) /\ Q v H2
def K2(ty td:TE):TE:=fun σ H Q=>ty σ H fun y H1=>td σ H1 fun x H2=>∃ a o,x=.ref a /\ zt H2 a y o /\ Q (.bl o.isSome) H2
section
variable{X:Cx}{o i e value:Expr}{pos pos' tpos:Pos}{td ty tv:TE}
theorem HE(hu:X.A.units+1<cLine)(ho:PE X o td)(hi:PE X i ty)(hs:Lp i):PE X (.Subscript o i pos) (Gf td ty):=by
 intro pins s σ H Q I h;refine IA PySem.F.slot_dict_getitem.lookup hs (thn (ho pins s σ H _ I h) fun u s1 ⟨x,H1,I1,rx,q1⟩=>thn (hi pins s1 σ H1 _ I1 q1) fun iv s2 ⟨y,H2,I2,ry,a,v,ex,g,q2⟩=>?_);subst ex
 obtain rfl:u=Value.ref a:=rx
 exact⟨Ad I2 g,Dp hu I2 g ry fun w' s3 I3 rw'=>⟨v,H2,I3,rw',q2⟩⟩
theorem KD(hu:X.A.units+1<cLine)(hi:PE X i ty)(ho:PE X o td):PC X .In i o (K2 ty td):=by
 intro pins s σ H Q I h
 refine thn (hi pins s σ H _ I h) fun iv s1 ⟨y,H1,I1,ry,q1⟩=>thn (ho pins s1 σ H1 _ I1 q1) fun u s2 ⟨x,H2,I2,rx,a,ov,ex,g,q2⟩=>?_
 subst ex
 obtain rfl:u=Value.ref a:=rx
 exact Ol hu I2 g ry fun s3 I3=>⟨.bl ov.isSome,H2,I3,rfl,q2⟩
end
theorem EA(h:Heap)(hb:sysModules<h.objs.size):gD P w H (h.push { cls:=.type "dict",data:=.dict #[] }) h.objs.size (.dK []):=
 ⟨Nat.zero_le _,beq_eq_false_iff_ne.mpr (Ne.symm (Nat.ne_of_lt hb)),[],.nil,Heap.DictOf.new h⟩
def zh:List (TE×TE)->St->Hp->(List (V×V)->Hp->Prop)->Prop
 |[],_,H,Q=>Q [] H
 |(tk,tv) ::r,σ,H,Q=>tk σ H fun x H1=>tv σ H1 fun y H2=>zh r σ H2 fun ps H3=>Q ((x,y) ::ps) H3
abbrev VV:List (V×V)->List (Value×Value)->Prop:=Paired fun p q=>RelV p.1 q.1 /\ RelV p.2 q.2
def PPs(X:Cx)(pos:Pos)(keys:List (Option Expr))(values:List Expr)(trs:List (TE×TE)):Prop:=
 ∀(pins:List (Addr×Obj)) (s:Shared) (σ:St) (H:Hp) (Q:List (V×V)->Hp->Prop),Inv X pins σ H s->zh trs σ H Q ->
   wpAny (model X.prog X.w) X.A (evalPairs (pairTrees keys values X.env pos)) (fun vs s'=>∃ ps H',Inv X pins σ H' s' /\ VV ps vs /\ Q ps H') X.xe s
theorem GW:PPs X pos [] [] []:=fun pins s σ H Q I h=>pairTrees_nil_walk ⟨[],H,I,.nil,h⟩
theorem Gd{ks:List (Option Expr)}{trs:List (TE×TE)}(hk:PE X k tk)(hv:PE X v tv)(hr:PPs X pos ks vs trs):
  PPs X pos (some k ::ks) (v ::vs) ((tk,tv) ::trs):=fun pins s σ H Q I h=>
 pairTrees_cons_walk (thn (hk pins s σ H _ I h) fun u s1 ⟨x,H1,I1,rx,q1⟩=>thn (hv pins s1 σ H1 _ I1 q1) fun w2 s2 ⟨y,H2,I2,ry,q2⟩=>
  thn (hr pins s2 σ H2 _ I2 q2) fun ws s3 ⟨ps,H3,I3,rel,q3⟩=>⟨(x,y) ::ps,H3,I3,.cons ⟨rx,ry⟩ rel,q3⟩)
def pP(kvs more:List (Key×V)):List (Key×V):=more.foldl (fun acc kv=>putK acc kv.1 kv.2) kvs
theorem KV.merge:∀{more:List (Key×V)} {rs:List (Key×Value)} {kvs:List (Key×V)} {vs:List (Key×Value)},KV more rs->KV kvs vs->KV (pP kvs more) (merged vs rs):=by
 intro more rs kvs vs r;unfold KV at r
 induction r generalizing kvs vs with
 |nil=>intro q;exact q
 | @cons p q ps qs h t ih=>
   intro r0
   have e:KV (putK kvs p.1 p.2) (stored vs q.1 q.2):=by
    have:=r0.put p.1 h.2;rw[<- h.1];exact this
   exact ih e
theorem rW:∀(more kvs:List (Key×V)),(pP kvs more).length<=kvs.length+more.length
 |[],kvs=>by show kvs.length<=kvs.length+0;omega
 | p ::r,kvs=>by
   have h1:=rW r (putK kvs p.1 p.2);have h2:=AK kvs p.1 p.2
   show(pP (putK kvs p.1 p.2) r).length<=_
   rw[List.length_cons];omega
theorem xc:∀{kvs:List (Key×V)} {ws:List (Value×Value)},VV (kvs.map fun kv=>(kV kv.1,kv.2)) ws->∃ rs,Carries (gf P w) ws rs /\ KV kvs rs
 |[],_,r=>by rw[List.map_nil]at r;cases r;exact⟨[],True.intro,.nil⟩
 | p ::kvs,_,r=>by
   rw[List.map_cons]at r
   cases r with
   | @cons a b as bs h t=>
     obtain⟨rs,c,q⟩:=xc (P:=P) (w:=w) t;obtain⟨b1,b2⟩:=b
     exact⟨(p.1,b2) ::rs,⟨CJ h.1,rfl,c⟩,.cons ⟨rfl,h.2⟩ q⟩
def Gk(trs:List (TE×TE)):TE:=fun σ H Q=>∀ p,H p=none->zh trs σ (upd H p (.dK [])) fun ps H2=>H2 p=some (.dK []) /\ ∃ kvs:List (Key×V),ps=kvs.map (fun kv=>(kV kv.1,kv.2)) /\ kvs.length<=15 /\ Q (.ref p) (upd H2 p (.dK (pP [] kvs)))
theorem Hw{keys:List (Option Expr)}{values:List Expr}{trs:List (TE×TE)}(h:PPs X pos keys values trs)(hall:keys.all (·.isSome)=true)(hl:keys.length=values.length)(h0:keys≠[])
  (h15:keys.length<=15):PE X (.Dict keys values pos) (Gk trs):=by
 intro pins s σ H Q I q;have hn:=I.hok.fresh (Nat.le_refl s.heap.objs.size);have I1:=I.laid (a:=s.heap.objs.size) (o:=.dK []) (h':=s.heap.push { cls:=.type "dict",data:=.dict #[] }) (t':=s.toks) (fun _ _ q=>Heap.get?_push_of_some _ q) (Nat.le_refl _) (EA s.heap I.big);refine wpAny_Dict_walk (knd:=gf X.prog X.w) hall hl h0 h15 (thn (h pins _ σ _ _ I1 (q _ hn)) fun ws s2 ⟨ps,H2,I2,rel,e,kvs,ep,lk,q2⟩=>?_);subst ep;obtain⟨rs,c,rk⟩:=xc (P:=X.prog) (w:=X.w) rel;obtain⟨z,hd,vs0,r0,dd⟩:=M8 I2.hok e;cases r0
 refine⟨rs,c,dd,fun h' dd' hs=>⟨.ref s.heap.objs.size,_,?_,rfl,q2⟩⟩
 have hz:(pP [] kvs).length<=sizeLine:=by
  have h1:=rW kvs [];rw[List.length_nil]at h1;rw[sizeLine_eq];omega
 have he:∃ q,h'.get? s.heap.objs.size=some q:=let ⟨q,_,_,hq,_⟩:=dd';⟨q,hq⟩
 exact HU I2 (by rw[e];exact True.intro) hs he (Lr hz hd (rk.merge .nil) dd')
end L2
set_option maxHeartbeats 4000000
namespace L2.E
open PySem PySem.Spec PyProof.Rows
def Km(a C:Addr)(dx:Option Addr)(h:Heap):Prop:=∃ o vs,h.get? a=some o /\ o.cls=.ref C /\ o.dict=dx /\ o.data=.fields vs /\ vs.size=6
def TbO(T:Addr)(h:Heap):Prop:=∃ o ts,h.get? T=some o /\ o.data=.fields ts /\ 3<ts.size
abbrev zY(a C:Addr)(dx:Option Addr):HO:=.ext (Km a C dx)
abbrev oTb(T:Addr):HO:=.ext (TbO T)
theorem L8(x:Km a C dx h):gD P w H h a (zY a C dx):=by
 refine⟨x,let ⟨o,_,e,_⟩:=x;⟨o,e⟩,fun h1 h2 p k=>?_⟩
 obtain⟨o,vs,e,r⟩:=p
 exact⟨o,vs,k o e,r⟩
theorem Je(x:TbO T h):gD P w H h T (oTb T):=by
 refine⟨x,let ⟨o,_,e,_⟩:=x;⟨o,e⟩,fun h1 h2 p k=>?_⟩
 obtain⟨o,vs,e,r⟩:=p
 exact⟨o,vs,k o e,r⟩
theorem Ge(h:H a=some o):upd H a o=H:=by
 funext b
 unfold upd;split
 . rename_i e;rw[e,h]
 . rfl
structure Fly(H:Hp)(h:Heap)(a C:Addr)(dx:Option Addr):Prop where
 exc:H a=some (zY a C dx)
 tb:∃ o vs,h.get? a=some o /\ o.data=.fields vs /\ (vs[1]?=some Value.none \/ ∃ T,vs[1]?=some (.ref T) /\ H T=some (oTb T) /\ T≠a)
structure DY(H:Hp)(h:Heap)(a C:Addr)(dx:Option Addr):Prop where
 exc:H a=some (zY a C dx)
 tb:∃ o vs T,h.get? a=some o /\ o.data=.fields vs /\ vs[1]?=some (.ref T) /\ H T=some (oTb T) /\ T≠a
theorem DY.fly(F:DY H h a C dx):Fly H h a C dx:=
 let ⟨o,vs,T,e1,e2,e3,e4,e5⟩:=F.tb
 ⟨F.exc,o,vs,e1,e2,.inr ⟨T,e3,e4,e5⟩⟩
section
variable{X:Cx}{pins:List (Addr×Obj)}{σ:St}{H:Hp}{s:Shared}{a C:Addr}{dx:Option Addr}
theorem Ep(I:Inv X pins σ H s)(k:Heap.SlotsOnly (frs X.stack) s.heap h₁):Un (frs X.stack) [] H H s.heap h₁ where
 keep:=fun b o e _ hb _=>(k.2.1 b hb).trans e
 slot:=fun b o e _ _ _=>k.2.2 b o e
 free:=fun _ _ _ n _=>n
 there:=fun b o e _=>let ⟨_,q⟩:=k.2.2 b o e;⟨_,q⟩
 tups:=fun _ _ q=>q
 frzs:=fun _ _ _ q=>q
 tbls:=fun _ ps q=>⟨#[],by rw[q];simp⟩
theorem DT(I:Inv X pins σ H s)(k:Heap.SlotsOnly (frs X.stack) s.heap h₁):HOk X.prog X.w H h₁:=fun b o e=>by
 have nf:∀ c u,H c=some u->c∉frs X.stack:=fun c u q z=>by rw[I.zk c z]at q;cases q
 refine(I.hok b o e).vk (fun c v hc q=>(k.2.1 c ?_).trans q) (fun _ q=>q) fun _ _ q=>q
 rcases hc with z|z
 . rw[z];exact nf b o e
 . exact nf c _ z
theorem HG(I:Inv X pins σ H s)(e:H a=some (zY a C dx)):
  Inv X pins σ H { s with heap:=s.heap.update a (Obj.mapFields (·.setIfInBounds i v)) }:=by
 obtain⟨⟨o,vs,ho,hc,hd,hf,hz⟩,_,_⟩:=I.hok a _ e;have hs:=Heap.get?_update_self (Obj.mapFields (·.setIfInBounds i v)) ho (Obj.isFreed_of_fields (Obj.data_mapFields hf _))
 have q:=I.write (x:=a) (e:=a) (o:=zY a C dx) (t':=s.toks) (h':=s.heap.update a (Obj.mapFields (·.setIfInBounds i v))) (by rw[e];trivial) (.inl rfl)
  (fun b u hb q=>(Heap.get?_update_other _ _ (Ne.symm hb)).trans q) ⟨_,hs⟩ (L8 ⟨_,_,hs,by rw[Obj.cls_mapFields];exact hc,by obtain⟨c,d,dt,sl⟩:=o;cases dt<;>exact hd,Obj.data_mapFields hf _,by simpa using hz⟩)
 rw[Ge e]at q;exact q
theorem E8(I:Inv X pins σ H s)(e:H T=some (oTb T)):
  Inv X pins σ H { s with heap:=s.heap.update T (Obj.mapFields (·.setIfInBounds i v)) }:=by
 obtain⟨⟨o,vs,ho,hf,hz⟩,_,_⟩:=I.hok T _ e;have hs:=Heap.get?_update_self (Obj.mapFields (·.setIfInBounds i v)) ho (Obj.isFreed_of_fields (Obj.data_mapFields hf _))
 have q:=I.write (x:=T) (e:=T) (o:=oTb T) (t':=s.toks) (h':=s.heap.update T (Obj.mapFields (·.setIfInBounds i v))) (by rw[e];trivial) (.inl rfl)
  (fun b u hb q=>(Heap.get?_update_other _ _ (Ne.symm hb)).trans q) ⟨_,hs⟩ (Je ⟨_,_,hs,Obj.data_mapFields hf _,by simpa using hz⟩)
 rw[Ge e]at q;exact q
theorem Ax{Q:Unit->Shared->Prop}{E:Value->Shared->Prop}(I:Inv X pins σ H s)(hst:X.stack=X.env ::X.outer)(hf:X.env.frame=some L)(e:H a=some (zY a C dx))
  (h:∀ s' H',Inv X pins σ H' s'->aK H H'->DY H' s'.heap a C dx->Q () s'):
  wpAny (model X.prog X.w) X.A (do let fr <- frameOf X.env;let pl <- entryPlaceOf L had;let b <- EntryCells.newEntry head fr .none (rawInt L) .none pl;setField (.ref a) 1 b) Q E s:=by
 have hfr:X.A.frames=some (X.env ::X.outer):=by rw[<- hst];exact I.ok.frames
 have hl:s.heap.FunFrames X.base (X.env ::X.outer):=by rw[<- hst];exact I.stack
 refine wpAny_bind (wpAny_frameOf_fun hfr hl hf fun h₁ k₁=>?_)
 have k₁':Heap.SlotsOnly (frs X.stack) s.heap h₁:=by rw[hst];exact k₁
 have I₁:=I.call (g':=s.gens) (t':=s.toks) (d':=s.drawn) (ch:=[]) (Ep I k₁') (DT I k₁') I.bare (fun b z=>absurd z (by simp));refine wpAny_bind (wpAny_entryPlaceOf fun pl hpl=>?_);unfold EntryCells.newEntry newFields;refine wpAny_bind (wpAny_newObj_type ?_ (hpl.sizeOk5 _ _ _ _ _))
 have big:3<([head,.ref L,.none,rawInt L,.none]++(if pl.isEmpty then List.replicate 6 Value.none else pl)).toArray.size:=by
  rw[List.size_toArray,List.length_append];show 3<5+_;omega
 have new:=Heap.get?_push_size h₁ (o:={ cls:=.type "traceback",dict:=none,data:=.fields ([head,.ref L,.none,rawInt L,.none]++(if pl.isEmpty then List.replicate 6 Value.none else pl)).toArray }) rfl
 have fr:H h₁.objs.size=none:=I₁.hok.fresh (Nat.le_refl _)
 have ne:h₁.objs.size≠a:=fun z=>by rw[z,e]at fr;cases fr
 have I₂:=I₁.laid (a:=h₁.objs.size) (o:=oTb h₁.objs.size) (t':=s.toks) (fun b u q=>Heap.get?_push_of_some _ q) (Nat.le_refl _) (Je ⟨_,_,new,rfl,big⟩)
 have g:aK H (upd H h₁.objs.size (oTb h₁.objs.size)):=fun b u q=>by rw[bP (eU q fr)];exact q
 obtain⟨⟨o,vs,ho,hc,hd,hv,hz⟩,_,_⟩:=I₂.hok a _ (g _ _ e);refine wpAny_setField ho hv (by omega) ?_;refine h _ _ (HG I₂ (g _ _ e)) g ⟨g _ _ e,_,_,h₁.objs.size,Heap.get?_update_self _ ho (Obj.isFreed_of_fields (Obj.data_mapFields hv _)),Obj.data_mapFields hv _,by simp[hz],bL,ne⟩
theorem Ie{Q:Unit->Shared->Prop}{E:Value->Shared->Prop}(I:Inv X pins σ H s)(hst:X.stack=X.env ::X.outer /\ X.env.frame=some X.env.locals)(F:Fly H s.heap a C dx)
  (h:∀ s' H',Inv X pins σ H' s'->aK H H'->DY H' s'.heap a C dx->Q () s'):wpAny (model X.prog X.w) X.A (noteFrame (.ref a) X.env) Q E s:=by
 obtain⟨o,vs,ho,hv,hw⟩:=F.tb;unfold noteFrame;simp only[hst.2]
 rcases hw with h1|⟨T,h1,hT,ne⟩
 . refine wpAny_bind (wpAny_field ho hv h1 ?_);rw[if_neg (by decide)];exact Ax I hst.1 hst.2 F.exc h
 . obtain⟨⟨oT,ts,hoT,hdT,hz⟩,_,_⟩:=I.hok T _ hT;refine wpAny_bind (wpAny_field ho hv h1 ?_);rw[if_pos (show(Value.ref T != Value.none)=true from by simp)]
   have h3:ts[3]?=some ts[3]:=by simp[hz]
   refine wpAny_bind (wpAny_field hoT hdT h3 ?_)
   by_cases c:(ts[3]==rawInt X.env.locals)=true
   . rw[if_pos c];exact wpAny_pure (h s H I (aK.refl H) ⟨F.exc,o,vs,T,ho,hv,h1,hT,ne⟩)
   . rw[if_neg c];refine wpAny_bind (wpAny_setField hoT hdT hz ?_);exact Ax (E8 I hT) hst.1 hst.2 F.exc h
theorem DR{Q:Unit->Shared->Prop}{E:Value->Shared->Prop}(I:Inv X pins σ H s)(F:DY H s.heap a C dx)
  (h:∀ s',Inv X pins σ H s'->DY H s'.heap a C dx->Q () s'):wpAny (model X.prog X.w) X.A (setFlight (.ref a) x) Q E s:=by
 obtain⟨o,vs,T,ho,hv,h1,hT,ne⟩:=F.tb;unfold setFlight;obtain⟨⟨oT,ts,hoT,hdT,hz⟩,_,_⟩:=I.hok T _ hT;refine wpAny_bind (wpAny_field ho hv h1 ?_);rw[if_pos (show(Value.ref T != Value.none)=true from by simp)];refine wpAny_setField hoT hdT hz ?_;exact h _ (E8 I hT) ⟨F.exc,o,vs,T,(Heap.get?_update_other _ _ ne).trans ho,hv,h1,hT,ne⟩
end
def CXE(P:Program)(w:World):CXT:=fun outer H s E e s'=>∃ a C dx H',e=.ref a /\ s'.os=s.os /\ AllBare s'.gens /\ Un (frs outer) [] H H' s.heap s'.heap /\ HOk P w H' s'.heap /\ Fly H' s'.heap a C dx /\ E (.ref C) (some a) H'
abbrev XW:=Value->Option Addr->St->Hp->Prop
def Thr(X:Cx)(W:XW):Prop:=∀(pins:List (Addr×Obj)) (σ:St) (H:Hp) (s:Shared) (a C:Addr) (dx:Option Addr),Inv X pins σ H s->Fly H s.heap a C dx->W (.ref C) (some a) σ H->X.xe (.ref a) s
section
variable{CX:CXT}{P:Program}{w:World}{K:PySem.W.Frag}{mg:Str->Option Value}{base:Heap}{N:List Str}{qual:Str}{scope:Scope}{f:Addr}{cd:Value}{A:Around}{outer:List Env}{s₀:Shared}{H₀:Hp}{E:XK}
theorem aN:Thr (uq (CXE P w) P w K mg base N qual scope f cd A outer s₀ H₀ E) (fun C a _ H=>∀ H',aK H H'->E C a H'):=by
 intro pins σ H s a C dx I F hw;show wpAny _ _ (leaving _ _) _ _ s;unfold leaving;refine wpAny_bind (Ie I ⟨rfl,rfl⟩ F fun s1 H1 I1 g1 F1=>?_)
 refine DR I1 F1 fun s2 I2 F2=>?_
 exact⟨a,C,dx,H1,rfl,I2.os,I2.bare,I2.base,I2.hok,F2.fly,hw H1 g1⟩
theorem gi:PassesOwn (model P w) (uq (CXE P w) P w K mg base N qual scope f cd A outer s₀ H₀ E).A (uq (CXE P w) P w K mg base N qual scope f cd A outer s₀ H₀ E).env (uq (CXE P w) P w K mg base N qual scope f cd A outer s₀ H₀ E).xe:=by
 show PassesOwn (model P w) (A.deeper (envOfC qual scope s₀.heap.objs.size f cd)) (envOfC qual scope s₀.heap.objs.size f cd) (fun e s'=>wpAny (model P w) (A.deeper (envOfC qual scope s₀.heap.objs.size f cd)) (leaving (envOfC qual scope s₀.heap.objs.size f cd) e) (fun _ s''=>CXE P w outer H₀ s₀ E e s'') (fun e' s''=>CXE P w outer H₀ s₀ E e' s'') s')
 passes_own
end
section
variable{X:Cx}{k:Nat}{f:Addr}{fd:FuncData}{ps:List Str}{sp:Sp}{dvs:List V}{ds:List Value}{W:XW}{x m:Str}{p pos apos:Pos}{e o:Expr}{es:List Expr}{ta:TE}{t:TA}
def sf(sp:Sp)(dvs:List V)(W:XW)(t:TA):TE:=fun σ H Q=>t σ H fun vs H1=>sp (vs++dvs) H1 Q fun C a H'=>W C a σ H'
theorem vB{pins:List (Addr×Obj)}(F:cx X.prog X.w X.K X.mg X.base (CXE X.prog X.w) k f fd ps sp)(hr:iK k X.A)(hb:Binds X.K fd ps ds)(hd:Vals dvs ds)(hx:Thr X W)
  (I:Inv X pins σ H s) (r:Vals vs us) (h:sp (vs++dvs) H Q fun C a H'=>W C a σ H'):wpAny (model X.prog X.w) X.A (call (.ref f) us) (EP X pins σ Q) X.xe s:=by
 have r2:Vals (vs++dvs) (us++ds):=r.append hd
 have hl:(us++ds).length=ps.length:=by rw[<- r2.length];exact F.len _ _ _ _ h
 refine wpAny_call (codeAny_mono (F.run X.A X.stack s H ⟨us,[]⟩ (us++ds) (vs++dvs) Q _ hr I.MX (hb s us I.kIn hl) r2 h) fun r s' hq=>?_)
 cases r with
 | error e=>
   obtain⟨a,C,dx,H',rfl,ho,bare,un,hok,fl,hw⟩:=hq;exact hx pins σ H' s' a C dx (I.Jj ho un hok bare fun b z=>absurd z (by simp)) fl hw
 | ok fl=>
   cases fl with
   |ret u=>exact I.after hq
   |next=>exact False.elim hq
   |brk=>exact False.elim hq
   |cont=>exact False.elim hq
theorem Fy(F:cx X.prog X.w X.K X.mg X.base (CXE X.prog X.w) k f fd ps sp)(hr:iK k X.A)(hg:Gl X x)(hm:X.mg x=some (.ref f))(hk:PySem.W.keepIn X.K (.ref f)=true)(hb:Binds X.K fd ps ds)(hd:Vals dvs ds)(hx:Thr X W)
  (ha:PA X (e ::es) t) (hdb:(x==("__debug__":Str))=false:=by decide) (he:starEach (e ::es) X.env=(false,eval e X.env) ::starEach es X.env:=by rfl) (hpl:(backTo pos (starEach es X.env)).any (·.1)=false:=by rfl):
  PE X (.Call (.Name x p) (e ::es) [] pos) (sf sp dvs W t):=by
 intro pins s σ H Q I h;refine wpAny_Call_Name_kw (vt I hg hm ?_ hdb);refine PySem.W.callWith_K (h₀:=X.base) I.ok.mod.kin hk (thn (ha pos pins s σ H _ I h) fun us s1 ⟨vs,H1,I1,r,q⟩=>⟨I1.kIn,?_⟩) he hpl;exact vB F hr hb hd hx I1 r q
theorem Dr(F:cx X.prog X.w X.K X.mg X.base (CXE X.prog X.w) k f fd ps sp)(hr:iK k X.A)(hg:Gl X x)(hm:X.mg x=some (.ref f))(hk:PySem.W.keepIn X.K (.ref f)=true)(hb:Binds X.K fd ps ds)(hd:Vals dvs ds)(hx:Thr X W)
  (hdb:(x==("__debug__":Str))=false:=by decide):PE X (.Call (.Name x p) [] [] pos) (sf sp dvs W mG):=by
 intro pins s σ H Q I h;refine wpAny_Call_Name_kw (vt I hg hm ?_ hdb);exact PySem.W.callWith_K0 I.kIn hk (vB (us:=[]) F hr hb hd hx I .nil h)
end
abbrev blk(X:Cx)(scope:Scope)(cl:List (Str×Addr))(N:List Str)(C:Addr)(s₀:Shared)(H₀:Hp)(ex:List Addr):Cx:=
 { prog:=X.prog,w:=X.w,K:=X.K,mg:=X.mg,base:=X.base,A:=X.A,N:=N,s₀:=s₀,H₀:=H₀,env:=compEnvC scope cl C X.env,outer:=X.stack,stack:=X.stack,ex:=ex,fn:=fun _=>false,calm:=X.calm,pn:=[],xe:=fun _ _=>False }
theorem BU:Thr X (fun _ _ _ _=>False):=fun _ _ _ _ _ _ _ _ _ h=>h.elim
structure oJ(X:Cx)(scope:Scope)(cl:List (Str×Addr))(M:List Str)(ι:List Nat)(x:Str):Prop where
 clos:closureFor scope X.env=pure cl
 kind:scope.kind=.function
 nocell:(scope.names.all fun p=>p.2 != .cell)=true
 locs:(scope.names.all fun p=>p.2 != .local||scope.names.lookup p.1==some .local)=true
 var:scope.names.lookup x=some .local
 names:M.map some=ι.map fun i=>X.N[i]?
 cells:M.map (fun y=>scope.names.lookup y)=M.map fun _=>some .free
 kinds:M.map X.env.kindOf=M.map fun _=>some .cell
 same:M.map (fun y=>cl.lookup y)=M.map fun y=>X.env.cells.lookup y
 sub:cl.map (fun p=>X.env.cells.lookup p.1)=cl.map fun p=>some p.2
 all:(scope.names.all fun p=>!(p.2 == .free)||(cl.lookup p.1).isSome)=true
 nd:(M++[x]).Nodup
theorem zB{α β:Type}{f g:α->β}{l:List α}(h:l.map f=l.map g){a:α}(ha:a∈l):f a=g a:=by
 induction l with
 |nil=>cases ha
 | cons b r ih=>
   rw[List.map_cons,List.map_cons]at h
   injection h with h1 h2
   rcases List.mem_cons.mp ha with z|z
   . rw[z];exact h1
   . exact ih h2 z
theorem zg{scope:Scope}(h:scope.names.lookup y=some .free):(relabel scope env).names.lookup y=some .cell \/ (relabel scope env).names.lookup y=some .free:=by
 unfold relabel;dsimp only;generalize scope.names=l at h
 induction l with
 |nil=>cases h
 | cons p r ih=>
   obtain⟨n,k⟩:=p;rw[List.lookup_cons]at h;rw[List.map_cons]
   by_cases e:(y==n)=true
   . rw[e]at h
     have hk:k=.free:=Option.some.inj h
     subst hk;dsimp only;split
     . rw[List.lookup_cons,e];exact .inl rfl
     . rw[List.lookup_cons,e];exact .inr rfl
   . have e':(y==n)=false:=by simpa using e
     rw[e']at h;dsimp only;split
     . rw[List.lookup_cons,e'];exact ih h
     . rw[List.lookup_cons,e'];exact ih h
theorem yL{scope:Scope}(hc:(scope.names.all fun p=>p.2 != .cell)=true)(h:(relabel scope env).names.lookup y=some .cell \/ (relabel scope env).names.lookup y=some .free):∃ p∈scope.names,p.1=y /\ p.2=.free:=by
 unfold relabel at h
 dsimp only at h
 generalize scope.names=l at h hc
 induction l with
 |nil=>rcases h with h|h<;>cases h
 | cons p r ih=>
   obtain⟨n,k⟩:=p;rw[List.all_cons,Bool.and_eq_true]at hc;rw[List.map_cons]at h
   by_cases e:(y==n)=true
   . refine⟨(n,k),List.mem_cons_self,(beq_iff_eq.mp e).symm,?_⟩
     dsimp only at h ⊢
     split at h
     . rename_i c;simp only[Bool.and_eq_true,beq_iff_eq]at c;exact c.1.1
     . rw[List.lookup_cons,e]at h
       have hk:(k != NameKind.cell)=true:=hc.1
       rcases h with h|h
       . have:k=.cell:=Option.some.inj h
         subst this;exact absurd hk (by decide)
       . exact Option.some.inj h
   . have e':(y==n)=false:=by simpa using e
     have h':(List.map (fun x=>match x with|(n,k)=>if(k==NameKind.free&&env.scope.kind==ScopeKind.function&&env.kindOf n==some NameKind.cell)=true then(n,NameKind.cell)else(n,k)) r).lookup y=some .cell \/
       (List.map (fun x=>match x with|(n,k)=>if(k==NameKind.free&&env.scope.kind==ScopeKind.function&&env.kindOf n==some NameKind.cell)=true then(n,NameKind.cell)else(n,k)) r).lookup y=some .free:=by
      dsimp only at h
      split at h
      . rw[List.lookup_cons,e']at h;exact h
      . rw[List.lookup_cons,e']at h;exact h
     obtain⟨q,hq,z⟩:=ih h' hc.2
     exact⟨q,List.mem_cons_of_mem _ hq,z⟩
def pick(ι:List Nat)(σ:St):St:=ι.map fun i=>(σ[i]?).join
def uP(wi:TI)(ι:List Nat)(te:TE):TE:=fun σ H Q=>wi σ H fun J H1=>∀ D,H1 D=none->∃ W:Nat->Nat->List V->Hp->Prop,(∃ m,W 0 m [] (upd H1 D (.lst []))) /\ ∀ i m ys H,W i m ys H ->
 H D=some (.lst ys) /\ ((J.stop i H /\ Q (.ref D) H) \/ (J.go i H /\ ∀ x H',J.yld i H x H'->te (pick ι σ++[some x]) H' fun y H2=>H2 D=some (.lst ys) /\ ys.length<sizeLine /\ ∃ m',m'<m /\ W (i+1) m' (ys++[y]) (upd H2 D (.lst (ys++[y])))))
section
variable{X:Cx}{scope:Scope}{cl:List (Str×Addr)}{M:List Str}{ι:List Nat}{x:Str}
theorem oJ.xk(S:oJ X scope cl M ι x)(h:cl.lookup y=some c):X.env.cells.lookup y=some c:=zB S.sub (PySem.mem_of_lookup h)
theorem BG{pins:List (Addr×Obj)}{s:Shared}{h₁:Heap}(S:oJ X scope cl M ι x)(I:Inv X pins σ H s)(hex:∀ b∈ex,pQ X pins H b /\ b<s.heap.objs.size)(hn:h₁.Ns s.heap.objs.size (fun _=>none))
  (hk:∀ b o,s.heap.get? b=some o->h₁.get? b=some o):Inv (blk X scope cl (M++[x]) s.heap.objs.size s H ex) [] (pick ι σ++[none]) H { s with heap:=h₁,toks:=t' }:=by
 have noM:∀ b:Addr,b∈ex->b≠s.heap.objs.size:=fun b hb=>Nat.ne_of_lt (hex b hb).2
 have fsx:∀ b∈ex,b∉frs X.stack:=fun b hb z=>by
  obtain⟨⟨_,f1,f2,_⟩,_⟩:=hex b hb
  rcases List.mem_cons.mp (I.Bp b z)with e|e
  . exact f1 e
  . exact f2 e
 have base0:∀ b o,X.base.get? b=some o->b∉ex:=fun b o e z=>by
  obtain⟨⟨_,_,_,f3,_⟩,_⟩:=hex b z
  rcases f3 with f|f
  . exact I.ok.noex b o e f
  . exact absurd (Nat.lt_of_lt_of_le (Heap.lt_size e) (Nat.le_trans I.ok.bsz f)) (Nat.lt_irrefl _)
 refine⟨⟨I.ok.mod,S.kind,I.ok.glob,I.ok.blt,Nat.le_refl _,fun y z c h1 h2=>I.ok.inj y z c (S.xk h1) (S.xk h2),fun y hy=>?_,fun y c z=>absurd z Bool.false_ne_true,I.ok.hd,I.ok.frames,.inl rfl,
  fun b hb=>⟨noM b hb,fun y c h z=>(hex b hb).1.2.2.2.2.1 y c (S.xk h) z⟩,I.bs,Nat.le_trans I.ok.bsz I.sz,base0,fsx,I.stack,I.zk⟩,
  rfl,I.bare,Un.kept hk,⟨_,hn,fun i y v e1 e2 e3=>?_⟩,fun y c h=>?_,I.fresh,fun y c h=>?_,fun p hp=>absurd (show p∈([]:List (Addr×Obj)) from hp) (by simp),I.hok.kept hk,?_⟩
 . obtain⟨p,hp,rfl,hpf⟩:=yL S.nocell hy;have q:=List.all_eq_true.mp S.all p hp;rw[hpf]at q
   have q':(cl.lookup p.1).isSome=true:=by
    cases e:(cl.lookup p.1).isSome with
    |true=>rfl
    |false=>rw[e]at q;exact absurd q (by decide)
   exact Option.isSome_iff_exists.mp q'
 . have hiM:i < M.length:=by
    by_cases hlt:i<M.length
    . exact hlt
    . exfalso
      have hl:(pick ι σ).length=M.length:=by
       have q:=congrArg List.length S.names;rw[List.length_map,List.length_map]at q;unfold pick;rw[List.length_map,q]
      rw[List.getElem?_append_right (by omega),hl]at e2
      have:i - M.length=0 \/ 1<=i - M.length:=by omega
      rcases this with z|z
      . rw[z]at e2;cases e2
      . rw[List.getElem?_eq_none (by simpa using z)]at e2;cases e2
   have hl:ι.length=M.length:=by
    have q:=congrArg List.length S.names;rw[List.length_map,List.length_map]at q;exact q.symm
   rw[List.getElem?_append_left hiM]at e1
   have hyM:y∈M:=List.mem_of_getElem? e1
   have e2':((σ[ι[i]]?).join)=some v:=by
    rw[List.getElem?_append_left (by unfold pick;rw[List.length_map];omega)]at e2;unfold pick at e2;rw[List.getElem?_map,List.getElem?_eq_getElem (by omega)]at e2;exact Option.some.inj e2
   have e4:σ[ι[i]]?=some (some v):=by
    cases q:σ[ι[i]]? with
    |none=>rw[q]at e2';cases e2'
    |some w=>rw[q]at e2';exact congrArg some e2'
   have e5:X.N[ι[i]]?=some y:=by
    have q:=congrArg (fun l=>l[i]?) S.names;rw[List.getElem?_map,List.getElem?_map,e1,List.getElem?_eq_getElem (by omega)]at q
    exact(Option.some.inj q).symm
   have kc:X.env.kindOf y=some .cell:=zB S.kinds hyM
   obtain⟨m,hm,hl⟩:=I.loc;obtain⟨u,r,q⟩:=hl _ y v e5 e4 (.inr (.inl kc))
   refine⟨u,r,.inr ⟨?_,?_⟩⟩
   . exact zg (zB S.cells hyM)
   . rcases q with⟨k,_⟩|⟨_,c,e,o,ho,hd⟩
     . rw[kc]at k;cases k
     . exact⟨c,(zB S.same hyM).trans e,o,hk _ _ ho,hd⟩
 . obtain⟨v,o,ho,hd⟩:=I.cell y c (S.xk h)
   exact⟨v,o,hk _ _ ho,hd⟩
 . exact I.freeC y c (S.xk h)
 . have q:=congrArg List.length S.names;rw[List.length_map,List.length_map]at q
   show(pick ι σ++[none]).length=(M++[x]).length
   unfold pick;rw[List.length_append,List.length_append,List.length_map,q];rfl
theorem yR{pins:List (Addr×Obj)}{s s':Shared}(I:Inv X pins σ H s)(hC:C=s.heap.objs.size)(hex:∀ b∈ex,pQ X pins H b)(J:Inv (blk X scope cl N C s H ex) [] σ' H' s')
  (hs:Heap.SameBut C s'.heap h'):Inv X pins σ H' { s' with heap:=h' }:=by
 subst hC
 have K:Inv X pins σ H' s':=I.Jj (ch:=ex) J.os J.base J.hok J.bare fun b hb=>by
  obtain⟨_,f1,_,f3,f4,f5⟩:=hex b hb
  exact⟨f3,f1,f4,f5⟩
 refine K.turned (t':=s'.toks) (it:=s.heap.objs.size) (fun b o hb e=>(hs.2 b hb).trans e) J.free (Nat.ne_of_gt I.lt) (.inr I.sz) (fun y c e z=>?_) (fun p hp z=>?_)
 . obtain⟨v,q⟩:=I.cell y c e;exact absurd (z ▸ q.lt) (Nat.lt_irrefl _)
 . exact absurd (z ▸ Heap.lt_size (I.pin p hp).1) (Nat.lt_irrefl _)
theorem ye(elt target iter:Expr)(scope:Scope)(pos:Pos)(it acc:Value)(env:Env):
  compTurn (.ListComp elt [⟨target,iter,[],0⟩] scope pos) 0 it acc env=(do
   standAt iter.pos
   match <- pyNext it with
   |none=>pure (.done .next)
   | some v=>do
     letOwnedTupleGo target it v
     assign target env v
     (do let x <- eval elt env;let _ <- call (.builtin "list.append") [acc,x];pure ())
     again (.compLoop (.ListComp elt [⟨target,iter,[],0⟩] scope pos) 0 it acc env)):=by rfl
theorem IG(S:oJ X scope cl M ι x)(hc:X.calm=true)(hi:PI X (.Name x px) iter wi)(he:∀ C s₀ H₀ ex,PE (blk X scope cl (M++[x]) C s₀ H₀ ex) elt te)
  (hs:∀ v,foldedSetIterable iter X.env v=pure v:=by intro _;rfl):PE X (.ListComp elt [⟨.Name x px,iter,[],0⟩] scope pos) (uP wi ι te):=by
 intro pins s σ H Q I h;rw[eval_ListComp];refine wpAny_comprehension_free (use:=none) rfl hs S.clos S.kind (fun y hy hl=>?_) (wpAny_mono (hi pins s σ H _ I h) (fun v s1 h1=>wpAny_mono h1 (fun itv s2 h2=>?_) fun _ _ z=>z) fun _ _ z=>z)
 . have q:=List.all_eq_true.mp S.locs y hy;rw[hl]at q
   simpa using q
 obtain⟨it,fp,tn,J,H2,rfl,I2,T,st2,f2,hW⟩:=h2;have I3:=I2.GR (ys:=[]) (its:=[]) (t':=s2.toks) .nil (Nat.zero_le _);obtain⟨W,⟨m0,w0⟩,turn⟩:=hW s2.heap.objs.size I2.fresh
 have fpo:∀ b∈fp,b<s2.heap.objs.size:=fun b hb=>let ⟨_,e,_⟩:=T.obj _ _ st2 b hb;Heap.lt_size e
 have f3:∀ b∈fp,pQ X pins (upd H2 s2.heap.objs.size (.lst [])) b:=fun b hb=>by
  obtain⟨q0,q⟩:=f2 b hb
  exact⟨by rw[bP (Nat.ne_of_lt (fpo b hb))];exact q0,q⟩
 show wpAny _ _ (newObj (.type "list") _ none) _ _ s2;refine wpAny_newObj_type (wpAny_newFunctionEnv (fun y hy=>?_) (by intro y hy;simp at hy) (fun h₁ hn₁ sb₁=>?_) S.kind)
 . have q:=List.all_eq_true.mp S.nocell y hy
   simpa using q
 have hsz:(s2.heap.push { cls:=.type "list",dict:=none,data:=.seq ([]:List Value).toArray }).objs.size=s2.heap.objs.size+1:=Heap.size_push ..
 have hk₁:∀ b o,(s2.heap.push { cls:=.type "list",dict:=none,data:=.seq ([]:List Value).toArray }).get? b=some o->h₁.get? b=some o:=fun b o e=>
  (sb₁.2 b (Nat.ne_of_lt (Heap.lt_size e))).trans (Heap.get?_push_of_some _ e)
 have J0:=BG (t':=s2.toks+([]:List (Str×Value)).length) S I3 (ex:=fp) (fun b hb=>⟨f3 b hb,Nat.lt_of_lt_of_le (fpo b hb) (by rw[hsz];exact Nat.le_succ _)⟩) hn₁ hk₁
 have old:∀ b∈fp,∀ o,s2.heap.get? b=some o->h₁.get? b=some o:=fun b _ o e=>hk₁ b o (Heap.get?_push_of_some _ e)
 have st₁:tn 0 h₁:=T.keep _ _ _ st2 old
 have loop:codeAny (model X.prog X.w) X.A (.compLoop (.ListComp elt [⟨.Name x px,iter,[],0⟩] scope pos) 0 (.ref it) (.ref s2.heap.objs.size) (compEnvC scope cl (s2.heap.objs.size+1) X.env))
   (compPost (model X.prog X.w) X.A X.xe none (EP X pins σ Q) (.ref s2.heap.objs.size) (s2.heap.objs.size+1)) { s2 with heap:=h₁,toks:=s2.toks+([]:List (Str×Value)).length }:=by
  rw[hsz]at J0
  refine codeAny_loop rfl (fun n s'=>∃ i H' ys v,Inv (blk X scope cl (M++[x]) (s2.heap.objs.size+1) { s2 with heap:=s2.heap.push { cls:=.type "list",data:=.seq ([]:List Value).toArray },toks:=s2.toks } (upd H2 s2.heap.objs.size (.lst [])) fp) [] (pick ι σ++[v]) H' s' /\ tn i s'.heap /\ (∀ b∈fp,H' b=none) /\ W i n ys H')
   (fun n s' hI=>?_) m0 ⟨0,_,[],none,J0,st₁,fun b hb=>(f3 b hb).1,w0⟩
  obtain⟨i,H',ys,v,J',st',fr',w'⟩:=hI;obtain⟨hD,alt⟩:=turn i n ys H' w'
  have fpY:∀{G:Hp},(∀ b∈fp,G b=none)->∀ b∈fp,pQ (blk X scope cl (M++[x]) (s2.heap.objs.size+1) { s2 with heap:=s2.heap.push { cls:=.type "list",data:=.seq ([]:List Value).toArray },toks:=s2.toks } (upd H2 s2.heap.objs.size (.lst [])) fp) [] G b:=fun hG b hb=>
   ⟨hG b hb,(J'.ok.exf b hb).1,J'.ok.exfs b hb,.inl hb,(J'.ok.exf b hb).2,fun p hp=>absurd (show p∈([]:List (Addr×Obj)) from hp) (by simp)⟩
  show wpAny _ _ ((compTurn _ 0 (.ref it) (.ref s2.heap.objs.size) (compEnvC scope cl (s2.heap.objs.size+1) X.env)).onRaise _) _ _ s';refine wpAny_noted (wpAny_noRaise ?_);rw[ye];refine wpAny_bind (wpAny_standAt (wpAny_bind ?_))
  rcases alt with⟨stop,qn⟩|⟨go,step⟩
  . refine thn (T.done (blk X scope cl (M++[x]) (s2.heap.objs.size+1) _ _ fp) rfl rfl rfl hc i [] s' _ H' _ J' (fpY fr') st' stop) fun r s4 ⟨hr,J4⟩=>?_
    subst hr;refine wpAny_pure ?_;obtain⟨m,hm,_⟩:=id J4.loc
    refine⟨m,hm,fun h' sb=>⟨.ref s2.heap.objs.size,H',yR I3 hsz.symm f3 J4 sb,rfl,qn⟩⟩
  . refine thn (T.item (blk X scope cl (M++[x]) (s2.heap.objs.size+1) _ _ fp) rfl rfl rfl hc i [] s' _ H' _ J' (fpY fr') st' go) fun r s4 ⟨u,hr,h4⟩=>?_
    subst hr;refine wpAny_bind (thn h4 fun _ s5 ⟨z,H5,J5,r5,y5,st5,fr5⟩=>?_)
    have J5':=J5.pinned (fpY fr5) (T.obj _ _ st5)
    have hxN:(M++[x])[M.length]?=some x:=by simp
    refine wpAny_bind ?_;refine wpAny_assign_Name ?_;refine my (X:=blk X scope cl (M++[x]) (s2.heap.objs.size+1) _ _ fp) (i:=M.length) (v:=z) J5' S.nd hxN (.inl (lookup_relabel_local S.var)) r5 (fun s6 J6=>?_) (.inr (lookup_relabel_local S.var))
    have hlp:(pick ι σ).length=M.length:=by
     have q:=congrArg List.length S.names;rw[List.length_map,List.length_map]at q;unfold pick;rw[List.length_map,q]
    have hset:(pick ι σ++[v]).set M.length (some z)=pick ι σ++[some z]:=by
     rw[<- hlp,List.set_append_right _ _ (Nat.le_refl _),Nat.sub_self];rfl
    rw[hset]at J6;refine wpAny_bind (wpAny_bind (thn (he _ _ _ _ _ s6 _ H5 _ J6 (step z H5 y5)) fun yv s7 ⟨y,H7,J7,r7,hD7,hz7,m',hm',w7⟩=>?_));refine wpAny_bind (thn (b7 (X:=blk X scope cl (M++[x]) (s2.heap.objs.size+1) _ _ fp) _ s7 _ H7 (.ref s2.heap.objs.size) [y] (.ref s2.heap.objs.size) [yv] (fun _ G=>G=upd H7 s2.heap.objs.size (.lst (ys++[y]))) J7 rfl (.cons r7 .nil) ⟨_,_,y,rfl,rfl,hD7,hz7,rfl⟩) fun _ s8 ⟨_,H8,J8,_,e8⟩=>?_);subst e8;refine wpAny_pure (wpAny_pure ⟨rfl,m',hm',i+1,_,_,some z,J8.kB,?_,fun b hb=>?_,w7⟩)
    . exact T.keep _ _ _ st5 fun b hb o e=>(J8.pin (b,o) (List.mem_append_right _ (List.mem_append_right _ (eX hb e)))).1
    . obtain⟨o,e,d⟩:=T.obj _ _ st5 b hb
      exact(J8.pin (b,o) (List.mem_append_right _ (List.mem_append_right _ (eX hb e)))).2.1
 rw[hsz]at *;exact codeAny_compStart_list loop (T.self X.A 0 _ _ _ st₁ loop)
end
section
variable{X:Cx}
def IsV(K:PySem.W.Frag)(T:String)(x:V)(H:Hp)(b:Bool):Prop:=match x with
 |.int _=>(T = "int" /\ b=true) \/ (T = "bool" /\ b=false) \/ (T = "list" /\ b=false) \/ (T = "tuple" /\ b=false) \/ (T = "str" /\ b=false)
 |.bl _=>(T = "int" /\ b=true) \/ (T = "bool" /\ b=true) \/ (T = "list" /\ b=false) \/ (T = "tuple" /\ b=false) \/ (T = "str" /\ b=false)
 |.non=>(T = "int" /\ b=false) \/ (T = "bool" /\ b=false) \/ (T = "list" /\ b=false) \/ (T = "tuple" /\ b=false) \/ (T = "str" /\ b=false)
 |.str _=>(T = "int" /\ b=false) \/ (T = "bool" /\ b=false) \/ (T = "list" /\ b=false) \/ (T = "tuple" /\ b=false) \/ (T = "str" /\ b=true)
 | .ref p=>((∃ xs,SqL K H p xs) /\ ((T = "int" /\ b = false) \/ (T = "bool" /\ b = false) \/ (T = "list" /\ b = true) \/ (T = "tuple" /\ b = false) \/ (T = "str" /\ b = false))) \/
    ((∃ xs,SqT K H p xs) /\ ((T = "int" /\ b=false) \/ (T = "bool" /\ b=false) \/ (T = "list" /\ b=false) \/ (T = "tuple" /\ b=true) \/ (T = "str" /\ b=false)))
 |_=>False
theorem n6:nZ X (.builtin "isinstance") (fun xs H Q=>∃ x T b,xs=[x,.ty T] /\ IsV X.K T x H b /\ Q (.bl b) H):=by
 intro pins s σ H vs us Q I rv h;obtain⟨x,T,b,rfl,hv,q⟩:=h;obtain⟨u,v,rfl,ru,rT⟩:=rv.two;cases rT
 cases x with
 | int i=>
   obtain⟨t,rfl⟩:=ru
   rcases hv with⟨rfl,rfl⟩|⟨rfl,rfl⟩|⟨rfl,rfl⟩|⟨rfl,rfl⟩|⟨rfl,rfl⟩
   . exact IsiPair.int_int ⟨.bl _,H,I,rfl,q⟩
   . exact IsiPair.int_bool ⟨.bl _,H,I.tok _,rfl,q⟩
   . exact IsiPair.int_list ⟨.bl _,H,I.tok _,rfl,q⟩
   . exact IsiPair.int_tuple ⟨.bl _,H,I.tok _,rfl,q⟩
   . exact IsiPair.int_str ⟨.bl _,H,I.tok _,rfl,q⟩
 | bl i=>
   cases ru
   rcases hv with⟨rfl,rfl⟩|⟨rfl,rfl⟩|⟨rfl,rfl⟩|⟨rfl,rfl⟩|⟨rfl,rfl⟩
   . exact IsiPair.bool_int ⟨.bl _,H,I,rfl,q⟩
   . exact IsiPair.bool_bool ⟨.bl _,H,I,rfl,q⟩
   . exact IsiPair.bool_list ⟨.bl _,H,I.tok _,rfl,q⟩
   . exact IsiPair.bool_tuple ⟨.bl _,H,I.tok _,rfl,q⟩
   . exact IsiPair.bool_str ⟨.bl _,H,I.tok _,rfl,q⟩
 | non=>
   cases ru
   rcases hv with⟨rfl,rfl⟩|⟨rfl,rfl⟩|⟨rfl,rfl⟩|⟨rfl,rfl⟩|⟨rfl,rfl⟩
   . exact IsiPair.NoneType_int ⟨.bl _,H,I.tok _,rfl,q⟩
   . exact IsiPair.NoneType_bool ⟨.bl _,H,I.tok _,rfl,q⟩
   . exact IsiPair.NoneType_list ⟨.bl _,H,I.tok _,rfl,q⟩
   . exact IsiPair.NoneType_tuple ⟨.bl _,H,I.tok _,rfl,q⟩
   . exact IsiPair.NoneType_str ⟨.bl _,H,I.tok _,rfl,q⟩
 | str i=>
   obtain⟨t,rfl⟩:=ru
   rcases hv with⟨rfl,rfl⟩|⟨rfl,rfl⟩|⟨rfl,rfl⟩|⟨rfl,rfl⟩|⟨rfl,rfl⟩
   . exact IsiPair.str_int ⟨.bl _,H,I.tok _,rfl,q⟩
   . exact IsiPair.str_bool ⟨.bl _,H,I.tok _,rfl,q⟩
   . exact IsiPair.str_list ⟨.bl _,H,I.tok _,rfl,q⟩
   . exact IsiPair.str_tuple ⟨.bl _,H,I.tok _,rfl,q⟩
   . exact IsiPair.str_str ⟨.bl _,H,I,rfl,q⟩
 | ref p=>
   cases ru
   rcases hv with⟨⟨xs,hS⟩,hv⟩|⟨⟨xs,hS⟩,hv⟩
   . obtain⟨its,r,pl,hz⟩:=I.list hS;obtain⟨o,e,c,_⟩:=pl.isList
     rcases hv with⟨rfl,rfl⟩|⟨rfl,rfl⟩|⟨rfl,rfl⟩|⟨rfl,rfl⟩|⟨rfl,rfl⟩
     . exact IsiPair.list_int e c ⟨.bl _,H,I.tok _,rfl,q⟩
     . exact IsiPair.list_bool e c ⟨.bl _,H,I.tok _,rfl,q⟩
     . exact IsiPair.list_list e c ⟨.bl _,H,I,rfl,q⟩
     . exact IsiPair.list_tuple e c ⟨.bl _,H,I.tok _,rfl,q⟩
     . exact IsiPair.list_str e c ⟨.bl _,H,I.tok _,rfl,q⟩
   . obtain⟨its,r,pl,hz⟩:=I.tuple hS;obtain⟨o,e,c,_⟩:=pl
     rcases hv with⟨rfl,rfl⟩|⟨rfl,rfl⟩|⟨rfl,rfl⟩|⟨rfl,rfl⟩|⟨rfl,rfl⟩
     . exact IsiPair.tuple_int e c ⟨.bl _,H,I.tok _,rfl,q⟩
     . exact IsiPair.tuple_bool e c ⟨.bl _,H,I.tok _,rfl,q⟩
     . exact IsiPair.tuple_list e c ⟨.bl _,H,I.tok _,rfl,q⟩
     . exact IsiPair.tuple_tuple e c ⟨.bl _,H,I,rfl,q⟩
     . exact IsiPair.tuple_str e c ⟨.bl _,H,I.tok _,rfl,q⟩
 |_=>exact hv.elim
theorem boot_bool:bootBuiltins "bool" = some (.type "bool"):=by decide +kernel
theorem boot_isinstance:bootBuiltins "isinstance" = some (.builtin "isinstance"):=by decide +kernel
theorem boot_all:bootBuiltins "all" = some (.builtin "all"):=by decide +kernel
theorem boot_tuple:bootBuiltins "tuple" = some (.type "tuple"):=by decide +kernel
theorem boot_list:bootBuiltins "list" = some (.type "list"):=by decide +kernel
theorem boot_int:bootBuiltins "int" = some (.type "int"):=by decide +kernel
theorem boot_str:bootBuiltins "str" = some (.type "str"):=by decide +kernel
theorem boot_len:bootBuiltins "len" = some (.builtin "len"):=by decide +kernel
end
section
variable{P:Program}{w:World}{K:PySem.W.Frag}{mg:Str->Option Value}{base:Heap}
theorem okX{x qual:Str}{st:Stmt}{f:Addr}{fd:FuncData}{N ps:List Str}{k:Nat}{sp:Sp}(F:Fun K x qual st f fd)(S:aT N ps (aA st))(len:∀ vs H Q E,sp vs H Q E->vs.length=ps.length)
  (hbody:∀(cdv:Value) (A:Around) (outer:List Env) (s:Shared) (H:Hp) (vs:List V) (Q:VK) (E:XK),iK k (A.deeper (envOfC qual (aA st) s.heap.objs.size f cdv))->sp vs H Q E ->
    ∃ t,PSs (uq (CXE P w) P w K mg base N qual (aA st) f cdv A outer s H E) (dO st) t /\ t { nx:=fun _ H'=>Q .non H',rt:=Q } (start N vs) H):cx P w K mg base (CXE P w) (k+1) f fd ps sp:=by
 obtain⟨oc,od,kV,doc,pm,an,cdv,ct,osl,rfl,lk,hcd⟩:=F.ex
 exact M7 lk hcd S len fun A outer s H vs Q E hr hsp=>hbody cdv A outer s H vs Q E hr hsp
end
theorem SqL.new{K:PySem.W.Frag}{H:Hp}{p:Addr}{xs:List V}(h:H p=some (.lst xs)):SqL K H p xs:=.inl (.inl h)
theorem SqT.new{K:PySem.W.Frag}{H:Hp}{p:Addr}{xs:List V}(h:H p=some (.tup xs)):SqT K H p xs:=.inl (.inl h)
theorem G5{H:Hp}{p q:Addr}{o:HO}(h:H q=some o)(n:H p=none):q≠p:=fun z=>by rw[z,n]at h;cases h
theorem _root_.L2.aK.upd{H H':Hp}{p:Addr}{o:HO}(e:aK H H')(n:H p=none):aK H (upd H' p o):=fun b u h=>by
 rw[bP (G5 h n)];exact e b u h
theorem _root_.L2.aK.new{H:Hp}{p:Addr}{o:HO}(n:H p=none):aK H (L2.upd H p o):=(aK.refl H).upd n
abbrev Goes(H:Hp)(E:XK)(C:Addr)(dx:Option Addr):Prop:=∀ H' a,aK H H'->H' a=some (zY a C dx)->E (.ref C) (some a) H'
section
variable{X:Cx}
def Jd(K:PySem.W.Frag):R2:=fun x y H Q=>∃ l b xs zs,x=.ref l /\ y=.ref b /\ SqL K H l xs /\ SqL K H b zs /\ xs.length+zs.length<=sizeLine /\ ∀ p,H p=none->Q (.ref p) (upd H p (.lst (xs++zs)))
theorem gy:OpR X (binaryOp .Add) (Jd X.K):=by
 intro pins s σ H x y v u Q I rx ry h;obtain⟨l,b,xs,zs,rfl,rfl,hH,hB,hz,q⟩:=h;cases rx;cases ry;obtain⟨its,r,pl,_⟩:=I.list hH;obtain⟨its2,r2,pl2,_⟩:=I.list hB;obtain⟨⟨cls,dd,data,sl⟩,ho,hc,n,hd⟩:=pl.isList;obtain⟨⟨cls2,dd2,data2,sl2⟩,ho2,hc2,n2,hd2⟩:=pl2.isList;simp only at hc hd hc2 hd2;subst hc hd hc2 hd2
 have hsz:its.toArray.size+its2.toArray.size<=sizeLine:=by rw[List.size_toArray,List.size_toArray,<- r.length,<- r2.length];exact hz
 refine concat_meets ⟨_,ho,rfl⟩ ⟨_,ho2,rfl⟩ noFill_list_add seq_list_add PySem.F.slot_list_add PySem.F.entry_list_add (PySem.F.args_list_add_2 _ _) (list_addW l b its.toArray its2.toArray n n2 dd dd2 sl sl2 hsz) ⟨ho,ho2,?_⟩
 have ea:its.toArray++its2.toArray=(its++its2).toArray:=by simp
 rw[ea]
 exact⟨.ref _,_,I.GR (t':=s.toks) (r.append r2) (by rw[List.length_append];exact hz),rfl,q _ I.fresh⟩
theorem Ek:nZ X (.builtin "all") (fun xs H Q=>∃(p:Addr) (bs:List Bool),xs=[.ref p] /\ SqL X.K H p (bs.map V.bl) /\ X.A.handled=none /\ Q (.bl (bs.all id)) H):=by
 intro pins s σ H vs us Q I rv h;obtain⟨p,bs,rfl,hp,hh,q⟩:=h;obtain⟨u,rfl,ru⟩:=rv.one;cases ru;obtain⟨its,r,pl,_⟩:=I.list hp;have hl:=r.length
 have isl:s.heap.IsList p its.toArray:=pl.isList
 obtain⟨o,e,_⟩:=id isl;refine call_all_walk (wpAny_pyIter_list isl ?_)
 have ne:p≠s.heap.objs.size:=Nat.ne_of_lt (Heap.lt_size e)
 have tv:∀(i:Nat) (v:Value),its.toArray[i]?=some v->∃ b,bs[i]?=some b /\ v=Value.bool b:=fun i v hv=>by
  have hv':its[i]?=some v:=by simpa using hv
  have hi:i<its.length:=(List.getElem?_eq_some_iff.mp hv').1
  rw[<- hl,List.length_map]at hi
  have hx:(bs.map V.bl)[i]?=some (V.bl bs[i]):=by simp[hi]
  obtain⟨u,hu,ru⟩:=r.get hx;rw[hv']at hu;cases hu
  exact⟨bs[i],by simp[hi],ru⟩
 refine⟨s.heap.objs.size,_,_,_,_,_,(fun i=>(bs[i]?).getD false),rfl,Walks.list (A:=X.A.in1) hh s.heap.objs.size p ne its.toArray,⟨⟨_,Heap.get?_push_size _ rfl,rfl,rfl⟩,isl.at fun o e=>Heap.get?_push_of_some _ e⟩,fun i v s' Q' E' hP hQ=>?_,fun h' tk hk=>?_⟩
 . obtain⟨b,hb,rfl⟩:=tv i v hP
   have hQ':Q' ((bs[i]?).getD false) s':=hQ
   rw[hb]at hQ';exact wpAny_truthy_bool hQ'
 . have en:its.toArray.size=bs.length:=by rw[List.size_toArray,<- hl,List.length_map]
   have eb:(List.range its.toArray.size).all (fun i=>(bs[i]?).getD false)=bs.all id:=by
    rw[en];rw[Bool.eq_iff_iff,List.all_eq_true,List.all_eq_true];constructor
    . intro hA b hb;obtain⟨i,hi,rfl⟩:=List.mem_iff_getElem.mp hb;have:=hA i (by simpa using hi)
      simpa [hi]using this
    . intro hA i hi
      have hi':i<bs.length:=by simpa using hi
      have:=hA bs[i] (List.getElem_mem hi')
      simpa [hi']using this
   rw[eb]
   refine⟨.bl _,H,I.kept (h':=h') (t':=tk) fun b o e'=>hk b o ?_ (Heap.get?_push_of_some _ e'),rfl,q⟩
   have lt:=Heap.lt_size e';intro z
   have z':b=s.heap.objs.size:=by simpa using z
   exact absurd (z' ▸ lt) (Nat.lt_irrefl _)
end
def isStar:Expr->Bool
 |.Starred ..=>true
 |_=>false
theorem DV{e:Expr}{es:List Expr}{env:Env}(h:isStar e=false):starEach (e ::es) env=(false,eval e env) ::starEach es env:=by
 cases e<;>first|rfl|cases h
theorem E2{X:Cx}{e:Expr}{es:List Expr}{te:TE}{t:TA}(ha:PE X e te)(hr:PA X es t)(hs:isStar e=false:=by rfl):PA X (e ::es) (jx te t):=HX ha hr (DV hs)
end L2.E
namespace L2.P
open PySem
def ixP(n:Nat)(i:Int):Option Nat:=if 0<=i then(if i<n then some i.toNat else none)else if -(n:Int)<=i then some (i+n).toNat else none
def atP{α:Type}(xs:List α)(i:Int):Option α:=(ixP xs.length i).bind fun j=>xs[j]?
def BC(n d:Nat):Option Int->Nat
 |none=>d
 |some v=>if v<0 then(v+(n:Int)).toNat else min v.toNat n
inductive PV where
 |non|bl (b:Bool)|int (i:Int)|str (s:Str)|lst (xs:List PV)|tup (xs:List PV)
inductive OV where
 | sh (x:PV)|ol (ts:List OV)|ob (c:String) (ks:List Str) (ts:List OV)
   |di (kvs:List (Int×PV))|dt (kvs:List (List Int×PV))
inductive Sl where
 | sh (x:PV)|ow (xs:List PV)|ex (c:String) (fs:List (Str×PV))
   |tr (io:Bool) (t:OV)|bo (t:OV)
abbrev ag:=List (Option Sl)
inductive RV where
 |sh (x:PV)|fr (xs:List PV)|al (xs:List PV)
def RV.pv:RV->PV
 |.sh x=>x
 |.fr xs=>.lst xs
 |.al xs=>.lst xs
abbrev XF:=List (Str×PV)
inductive OE where
 |ok (r:RV)|exc (c:String) (fs:XF)|bad
inductive OT where
 |ok (b:Bool)|exc (c:String) (fs:XF)|bad
inductive OA where
 |ok (xs:List PV)|exc (c:String) (fs:XF)|bad
inductive OS where
 |nx (ρ:ag)|rt (ρ:ag) (r:RV)|bk (ρ:ag)|ct (ρ:ag)|exc (ρ:ag) (c:String) (fs:XF)|bad
def OE.bind:OE->(RV->OE)->OE
 |.ok r,f=>f r
 |.exc c fs,_=>.exc c fs
 |.bad,_=>.bad
def OE.gF:OE->(RV->OT)->OT
 |.ok r,f=>f r
 |.exc c fs,_=>.exc c fs
 |.bad,_=>.bad
def OE.gb:OE->(RV->OA)->OA
 |.ok r,f=>f r
 |.exc c fs,_=>.exc c fs
 |.bad,_=>.bad
def OE.cy(ρ:ag):OE->(RV->OS)->OS
 |.ok r,f=>f r
 |.exc c fs,_=>.exc ρ c fs
 |.bad,_=>.bad
def OT.bind:OT->(Bool->OE)->OE
 |.ok r,f=>f r
 |.exc c fs,_=>.exc c fs
 |.bad,_=>.bad
def OT.gF:OT->(Bool->OT)->OT
 |.ok r,f=>f r
 |.exc c fs,_=>.exc c fs
 |.bad,_=>.bad
def OT.cy(ρ:ag):OT->(Bool->OS)->OS
 |.ok r,f=>f r
 |.exc c fs,_=>.exc ρ c fs
 |.bad,_=>.bad
def OA.bind:OA->(List PV->OE)->OE
 |.ok r,f=>f r
 |.exc c fs,_=>.exc c fs
 |.bad,_=>.bad
def OA.gb:OA->(List PV->OA)->OA
 |.ok r,f=>f r
 |.exc c fs,_=>.exc c fs
 |.bad,_=>.bad
def OA.cy(ρ:ag):OA->(List PV->OS)->OS
 |.ok r,f=>f r
 |.exc c fs,_=>.exc ρ c fs
 |.bad,_=>.bad
def ao(i:Nat):ag->OE:=fun ρ=>match ρ[i]? with
 |some (some (.sh x))=>.ok (.sh x)
 |some (some (.ow xs))=>.ok (.al xs)
 |_=>.bad
def mC(x:PV):ag->OE:=fun _=>.ok (.sh x)
def oE:Option RV->OE
 |some r=>.ok r
 |none=>.bad
def mOp(g:PV->PV->Option RV)(ma mb:ag->OE):ag->OE:=fun ρ=>(ma ρ).bind fun a=>(mb ρ).bind fun b=>oE (g a.pv b.pv)
def gI(C:Int->Int->Bool)(f:Int->Int->PV):PV->PV->Option RV
 |.int i,.int j=>if C i j then some (.sh (f i j))else none
 |_,_=>none
def dZ:=gI (fun _ _=>true) fun i j=>.int (i+j)
def xp:=gI (fun _ _=>true) fun i j=>.int (i - j)
def AS:=gI (fun i j=>(decide (-(2 ^ 64)<i)&&decide (i<2 ^ 64))||(decide (-(2 ^ 64)<j)&&decide (j<2 ^ 64))) fun i j=>.int (i*j)
def dH:=gI (fun _ j=>decide (0<j)&&decide (j<1073741824)) fun i j=>.int (i/j)
def cI:=gI (fun _ j=>decide (0<j)) fun i j=>.int (i%j)
def gLt:=gI (fun _ _=>true) fun i j=>.bl (decide (i<j))
def gLe:=gI (fun _ _=>true) fun i j=>.bl (decide (i<=j))
def gGt:=gI (fun _ _=>true) fun i j=>.bl (decide (j<i))
def gGe:=gI (fun _ _=>true) fun i j=>.bl (decide (j<=i))
def eqS:PV->PV->Option Bool
 |.non,.non=>some true|.non,.int _=>some false|.int _,.non=>some false|.non,.bl _=>some false|.bl _,.non=>some false|.non,.str _=>some false|.str _,.non=>some false
 |.int a,.int b=>some (decide (a=b))|.bl a,.bl b=>some (decide (a=b))|.str a,.str b=>some (decide (a=b))
 |.int _,.str _=>some false|.str _,.int _=>some false|.bl _,.str _=>some false|.str _,.bl _=>some false
 |_,_=>none
def gEq:PV->PV->Option RV:=fun x y=>(eqS x y).map fun b=>.sh (.bl b)
def gNe:PV->PV->Option RV:=fun x y=>(eqS x y).map fun b=>.sh (.bl (!b))
def mK:RV->Option PV
 |.sh x=>some x
 |.fr xs=>some (.lst xs)
 |.al _=>none
def aJ:ag->OA:=fun _=>.ok []
def ak(me:ag->OE)(mr:ag->OA):ag->OA:=fun ρ=>(me ρ).gb fun r=>match mK r with
 |some x=>(mr ρ).gb fun xs=>.ok (x ::xs)
 |none=>.bad
def lim:Nat:=16777216
def b5(ma:ag->OA):ag->OE:=fun ρ=>(ma ρ).bind fun xs=>if xs.length<=lim then .ok (.fr xs)else .bad
def fh(ma:ag->OA):ag->OE:=fun ρ=>(ma ρ).bind fun xs=>if xs.length<=lim then .ok (.sh (.tup xs))else .bad
def bp(f:List PV->OE)(ma:ag->OA):ag->OE:=fun ρ=>(ma ρ).bind f
def mUn(g:PV->Option RV)(ma:ag->OE):ag->OE:=fun ρ=>(ma ρ).bind fun a=>oE (g a.pv)
def hZ:PV->Option RV
 |.int i=>some (.sh (.int (-i)))
 |_=>none
def mM:PV->Option RV
 |.lst xs=>some (.sh (.int xs.length))
 |.tup xs=>some (.sh (.int xs.length))
 |_=>none
def zR:PV->Option RV
 |.int i=>some (.sh (.int i))
 |.bl b=>some (.sh (.int (if b then 1 else 0)))
 |_=>none
def tV:PV->Option RV
 |.lst xs=>some (.fr xs)
 |.tup xs=>some (.fr xs)
 |_=>none
def gN:PV->PV->Option RV
 |.lst xs,.int i=>(atP xs i).map .sh
 |_,_=>none
def eT:PV->PV->Option RV
 |.tup xs,.int i=>(atP xs i).map .sh
 |_,_=>none
def nB:PV->PV->Option RV
 |.lst xs,.lst ys=>if xs.length+ys.length<=lim then some (.fr (xs++ys))else none
 |_,_=>none
def sW:List PV->Option (List Bool)
 |[]=>some []
 |.bl i ::r=>(sW r).map (i ::·)
 |_ ::_=>none
def Hf:PV->Option RV
 |.lst xs=>(sW xs).map fun bs=>.sh (.bl (bs.all id))
 |_=>none
def isP(T:String):PV->Option Bool
 |.int _=>if T = "int" then some true else if T = "bool" \/ T = "list" \/ T = "tuple" \/ T = "str" then some false else none
 |.bl _=>if T = "int" \/ T = "bool" then some true else if T = "list" \/ T = "tuple" \/ T = "str" then some false else none
 |.non=>if T = "int" \/ T = "bool" \/ T = "list" \/ T = "tuple" \/ T = "str" then some false else none
 |.str _=>if T = "str" then some true else if T = "int" \/ T = "bool" \/ T = "list" \/ T = "tuple" then some false else none
 |.lst _=>if T = "list" then some true else if T = "int" \/ T = "bool" \/ T = "tuple" \/ T = "str" then some false else none
 |.tup _=>if T = "tuple" then some true else if T = "int" \/ T = "bool" \/ T = "list" \/ T = "str" then some false else none
def mIs(T:String)(ma:ag->OE):ag->OE:=mUn (fun x=>(isP T x).map fun b=>.sh (.bl b)) ma
def vb:PV->Option Bool
 |.non=>some false
 |.bl b=>some b
 |.int i=>some (i != 0)
 |.lst xs=>some (!xs.isEmpty)
 |.tup xs=>some (!xs.isEmpty)
 |.str _=>none
def oT:Option Bool->OT
 |some b=>.ok b
 |none=>.bad
def cU(ma:ag->OE):ag->OT:=fun ρ=>(ma ρ).gF fun r=>oT (vb r.pv)
def aB(ma:ag->OE):ag->OT:=fun ρ=>(ma ρ).gF fun r=>match r.pv with
 |.bl b=>.ok b
 |_=>.bad
def pE(m:ag->OT):ag->OT:=fun ρ=>(m ρ).gF fun b=>.ok (!b)
def fo(m n:ag->OT):ag->OT:=fun ρ=>(m ρ).gF fun b=>if b=true then n ρ else .ok false
def mL(m n:ag->OT):ag->OT:=fun ρ=>(m ρ).gF fun b=>if b=true then .ok true else n ρ
def xE(m n:ag->OE):ag->OE:=fun ρ=>(m ρ).bind fun r=>match r.pv with
 |.bl b=>if b=true then n ρ else .ok (.sh (.bl false))
 |_=>.bad
def F3(m:ag->OE):ag->OE:=fun ρ=>(m ρ).bind fun r=>match r.pv with
 |.bl b=>.ok (.sh (.bl (!b)))
 |_=>.bad
def gG(c:ag->OT)(m n:ag->OE):ag->OE:=fun ρ=>(c ρ).bind fun b=>if b=true then m ρ else n ρ
def nj(g g':PV->PV->Option RV)(ma mb mc:ag->OE):ag->OE:=fun ρ=>(ma ρ).bind fun a=>(mb ρ).bind fun b=>(oE (g a.pv b.pv)).bind fun r=>match r.pv with
 |.bl k=>if k=true then(mc ρ).bind fun c=>oE (g' b.pv c.pv)else .ok (.sh (.bl false))
 |_=>.bad
def OS.andThen:OS->(ag->OS)->OS
 |.nx ρ,k=>k ρ
 |o,_=>o
def OS.turn:OS->(ag->OS)->OS
 |.nx ρ,k=>k ρ
 |.ct ρ,k=>k ρ
 |.bk ρ,_=>.nx ρ
 |o,_=>o
def aG(a b:ag->OS):ag->OS:=fun ρ=>(a ρ).andThen b
def aS:ag->OS:=fun ρ=>.nx ρ
def EC:RV->Option Sl
 |.sh x=>some (.sh x)
 |.fr xs=>some (.ow xs)
 |.al _=>none
def bq(i:Nat)(me:ag->OE):ag->OS:=fun ρ=>(me ρ).cy ρ fun r=>match EC r with
 |some s=>.nx (ρ.set i (some s))
 |none=>.bad
def bf(c:ag->OT)(m n:ag->OS):ag->OS:=fun ρ=>(c ρ).cy ρ fun b=>if b=true then m ρ else n ρ
def bc(me:ag->OE):ag->OS:=fun ρ=>(me ρ).cy ρ fun r=>match r with
 |.al _=>.bad
 |r=>.rt ρ r
def gz(i:Nat):ag->OS:=fun ρ=>match ρ[i]? with
 |some (some (.sh x))=>.rt ρ (.sh x)
 |some (some (.ow xs))=>.rt (ρ.set i none) (.fr xs)
 |_=>.bad
def ET(me:ag->OE):ag->OS:=fun ρ=>(me ρ).cy ρ fun _=>.nx ρ
def lD(i:Nat)(ρ:ag):ag:=match ρ[i]? with
 |some (some (.ow xs))=>ρ.set i (some (.sh (.lst xs)))
 |_=>ρ
def eE(i:Nat)(me:ag->OE):ag->OS:=fun ρ=>match ρ[i]? with
 | some (some (.ow xs))=>(me ρ).cy ρ fun r=>match mK r with
   |some y=>if xs.length<lim then .nx (ρ.set i (some (.ow (xs++[y]))))else .bad
   |none=>.bad
 |_=>.bad
def jG(i:Nat)(mb:ag->OS):List PV->ag->OS
 |[],ρ=>.nx ρ
 |x ::xs,ρ=>(mb (ρ.set i (some (.sh x)))).turn (jG i mb xs)
def BH:RV->Option (List PV)
 |.sh (.lst xs)=>some xs
 |.fr xs=>some xs
 |_=>none
def u2(i:Nat)(ml:ag->OE)(mb:ag->OS):ag->OS:=fun ρ=>(ml ρ).cy ρ fun r=>match BH r with
 |some xs=>jG i mb xs ρ
 |none=>.bad
def cT(n:Nat):List PV:=(List.range n).map fun k:Nat=>PV.int (k:Int)
def tR(i:Nat)(me:ag->OE)(mb:ag->OS):ag->OS:=fun ρ=>(me ρ).cy ρ fun r=>match r.pv with
 |.int j=>if -(2 ^ 62)<=j /\ j<2 ^ 62 then jG i mb (cT j.toNat) ρ else .bad
 |_=>.bad
def bX(mc:ag->OT)(mb:ag->OS):Nat->ag->OS
 |0,_=>.bad
 |n+1,ρ=>(mc ρ).cy ρ fun b=>if b=true then(mb ρ).turn (bX mc mb n)else .nx ρ
def vL:PV->Option Int
 |.int i=>some i
 |_=>none
def Ck(m:ag->OE):ag->OE:=fun ρ=>(m ρ).bind fun r=>match r.pv with
 |.int i=>.ok (.sh (.int i))
 |_=>.bad
def Fz(xs:List PV)(lo hi:Option Int):List PV:=(xs.drop (BC xs.length 0 lo)).take (BC xs.length xs.length hi - BC xs.length 0 lo)
def Ma(x:PV)(lo hi:Option Int):Option RV:=match x with
 |.lst xs=>some (.fr (Fz xs lo hi))
 |_=>none
def Iq(ma ml mh:ag->OE):ag->OE:=fun ρ=>(ma ρ).bind fun a=>(ml ρ).bind fun l=>(mh ρ).bind fun h=>oE (Ma a.pv (vL l.pv) (vL h.pv))
def dv(ι:List Nat)(ρ:ag):ag:=ι.map fun i=>(ρ[i]?).join
def dc(me:ag->OE)(ρ:ag):List PV->OA
 |[]=>.ok []
 | x ::xs=>(me (ρ++[some (.sh x)])).gb fun r=>match mK r with
   |some y=>(dc me ρ xs).gb fun ys=>.ok (y ::ys)
   |none=>.bad
def noX:OA->OE
 |.ok xs=>if xs.length<=lim then .ok (.fr xs)else .bad
 |_=>.bad
def uw(ml:ag->OE)(ι:List Nat)(me:ag->OE):ag->OE:=fun ρ=>(ml ρ).bind fun r=>match r.pv with
 |.lst xs=>noX (dc me (dv ι ρ) xs)
 |_=>.bad
def vN(mn:ag->OE)(ι:List Nat)(me:ag->OE):ag->OE:=fun ρ=>(mn ρ).bind fun r=>match r.pv with
 |.int j=>if -(2 ^ 62)<=j /\ j<2 ^ 62 then noX (dc me (dv ι ρ) (cT j.toNat))else .bad
 |_=>.bad
def fin:OS->OE
 |.nx _=>.ok (.sh .non)
 |.rt _ (.al _)=>.bad
 |.rt _ r=>.ok r
 |.exc _ c fs=>.exc c fs
 |_=>.bad
def lS(n:Nat)(xs:List PV):ag:=xs.map (fun x=>some (.sh x))++List.replicate (n - xs.length) none
def fnP(np n:Nat)(m:ag->OS):List PV->OE:=fun xs=>if xs.length=np then fin (m (lS n xs))else .bad
def fuel:Nat:=100000
def iz(i:Nat)(m:ag->OS):ag->OS:=fun ρ=>m (lD i ρ)
def xr(i:Nat)(g:PV->PV->Option RV)(me:ag->OE):ag->OS:=fun ρ=>match ρ[i]? with
 | some (some (.sh x))=>(me ρ).cy ρ fun r=>match g x r.pv with
   |some (.sh z)=>.nx (ρ.set i (some (.sh z)))
   |_=>.bad
 |_=>.bad
def cG:PV->Bool
 |.non=>true
 |_=>false
def A9:PV->PV->Option RV
 |x,.non=>some (.sh (.bl (cG x)))
 |_,_=>none
def xU:PV->PV->Option RV
 |x,.non=>some (.sh (.bl (!cG x)))
 |_,_=>none
@[simp] theorem Bf(i:Nat)(ρ:ag):ao i ρ=(match ρ[i]? with
  |some (some (.sh x))=>.ok (.sh x)
  |some (some (.ow xs))=>.ok (.al xs)
  |_=>.bad):=rfl
@[simp] theorem Jv(g:PV->PV->Option RV)(ma mb:ag->OE)(ρ:ag):mOp g ma mb ρ=((ma ρ).bind fun a=>(mb ρ).bind fun b=>oE (g a.pv b.pv)):=rfl
@[simp] theorem ND(me:ag->OE)(mr:ag->OA)(ρ:ag):ak me mr ρ=((me ρ).gb fun r=>match mK r with
  |some x=>(mr ρ).gb fun xs=>.ok (x ::xs)
  |none=>.bad):=rfl
@[simp] theorem N9(ma:ag->OA)(ρ:ag):b5 ma ρ=((ma ρ).bind fun xs=>if xs.length<=lim then .ok (.fr xs)else .bad):=rfl
@[simp] theorem OP(ma:ag->OA)(ρ:ag):fh ma ρ=((ma ρ).bind fun xs=>if xs.length<=lim then .ok (.sh (.tup xs))else .bad):=rfl
@[simp] theorem Nx(f:List PV->OE)(ma:ag->OA)(ρ:ag):bp f ma ρ=((ma ρ).bind f):=rfl
@[simp] theorem Gz(g:PV->Option RV)(ma:ag->OE)(ρ:ag):mUn g ma ρ=((ma ρ).bind fun a=>oE (g a.pv)):=rfl
@[simp] theorem ES(ma:ag->OE)(ρ:ag):cU ma ρ=((ma ρ).gF fun r=>oT (vb r.pv)):=rfl
@[simp] theorem Hv(ma:ag->OE)(ρ:ag):aB ma ρ=((ma ρ).gF fun r=>match r.pv with
  |.bl b=>.ok b
  |_=>.bad):=rfl
@[simp] theorem Nz(m:ag->OT)(ρ:ag):pE m ρ=((m ρ).gF fun b=>.ok (!b)):=rfl
@[simp] theorem IQ(m n:ag->OT)(ρ:ag):fo m n ρ=((m ρ).gF fun b=>if b=true then n ρ else .ok false):=rfl
@[simp] theorem Od(m n:ag->OT)(ρ:ag):mL m n ρ=((m ρ).gF fun b=>if b=true then .ok true else n ρ):=rfl
@[simp] theorem NT(m n:ag->OE)(ρ:ag):xE m n ρ=((m ρ).bind fun r=>match r.pv with
  |.bl b=>if b=true then n ρ else .ok (.sh (.bl false))
  |_=>.bad):=rfl
@[simp] theorem NL(m:ag->OE)(ρ:ag):F3 m ρ=((m ρ).bind fun r=>match r.pv with
  |.bl b=>.ok (.sh (.bl (!b)))
  |_=>.bad):=rfl
@[simp] theorem Oz(c:ag->OT)(m n:ag->OE)(ρ:ag):gG c m n ρ=((c ρ).bind fun b=>if b=true then m ρ else n ρ):=rfl
@[simp] theorem MY(g g':PV->PV->Option RV)(ma mb mc:ag->OE)(ρ:ag):nj g g' ma mb mc ρ=((ma ρ).bind fun a=>(mb ρ).bind fun b=>(oE (g a.pv b.pv)).bind fun r=>match r.pv with
  |.bl k=>if k=true then(mc ρ).bind fun c=>oE (g' b.pv c.pv)else .ok (.sh (.bl false))
  |_=>.bad):=rfl
@[simp] theorem oa(a b:ag->OS)(ρ:ag):aG a b ρ=((a ρ).andThen b):=rfl
@[simp] theorem HD(ρ:ag):aS  ρ=(.nx ρ):=rfl
@[simp] theorem B3(i:Nat)(me:ag->OE)(ρ:ag):bq i me ρ=((me ρ).cy ρ fun r=>match EC r with
  |some s=>.nx (ρ.set i (some s))
  |none=>.bad):=rfl
@[simp] theorem Bo(c:ag->OT)(m n:ag->OS)(ρ:ag):bf c m n ρ=((c ρ).cy ρ fun b=>if b=true then m ρ else n ρ):=rfl
@[simp] theorem FC(me:ag->OE)(ρ:ag):bc me ρ=((me ρ).cy ρ fun r=>match r with
  |.al _=>.bad
  |r=>.rt ρ r):=rfl
@[simp] theorem Ms(i:Nat)(ρ:ag):gz i ρ=(match ρ[i]? with
  |some (some (.sh x))=>.rt ρ (.sh x)
  |some (some (.ow xs))=>.rt (ρ.set i none) (.fr xs)
  |_=>.bad):=rfl
@[simp] theorem NA(me:ag->OE)(ρ:ag):ET me ρ=((me ρ).cy ρ fun _=>.nx ρ):=rfl
@[simp] theorem Mx(i:Nat)(me:ag->OE)(ρ:ag):eE i me ρ=(match ρ[i]? with
  | some (some (.ow xs))=>(me ρ).cy ρ fun r=>match mK r with
    |some y=>if xs.length<lim then .nx (ρ.set i (some (.ow (xs++[y]))))else .bad
    |none=>.bad
  |_=>.bad):=rfl
@[simp] theorem NF(i:Nat)(ml:ag->OE)(mb:ag->OS)(ρ:ag):u2 i ml mb ρ=((ml ρ).cy ρ fun r=>match BH r with
  |some xs=>jG i mb xs ρ
  |none=>.bad):=rfl
@[simp] theorem NQ(i:Nat)(me:ag->OE)(mb:ag->OS)(ρ:ag):tR i me mb ρ=((me ρ).cy ρ fun r=>match r.pv with
  |.int j=>if -(2 ^ 62)<=j /\ j<2 ^ 62 then jG i mb (cT j.toNat) ρ else .bad
  |_=>.bad):=rfl
@[simp] theorem NV(m:ag->OE)(ρ:ag):Ck m ρ=((m ρ).bind fun r=>match r.pv with
  |.int i=>.ok (.sh (.int i))
  |_=>.bad):=rfl
@[simp] theorem N2(ma ml mh:ag->OE)(ρ:ag):Iq ma ml mh ρ=((ma ρ).bind fun a=>(ml ρ).bind fun l=>(mh ρ).bind fun h=>oE (Ma a.pv (vL l.pv) (vL h.pv))):=rfl
@[simp] theorem EO(ml:ag->OE)(ι:List Nat)(me:ag->OE)(ρ:ag):uw ml ι me ρ=((ml ρ).bind fun r=>match r.pv with
  |.lst xs=>noX (dc me (dv ι ρ) xs)
  |_=>.bad):=rfl
@[simp] theorem Na(mn:ag->OE)(ι:List Nat)(me:ag->OE)(ρ:ag):vN mn ι me ρ=((mn ρ).bind fun r=>match r.pv with
  |.int j=>if -(2 ^ 62)<=j /\ j<2 ^ 62 then noX (dc me (dv ι ρ) (cT j.toNat))else .bad
  |_=>.bad):=rfl
@[simp] theorem Mu(i:Nat)(m:ag->OS)(ρ:ag):iz i m ρ=(m (lD i ρ)):=rfl
@[simp] theorem Ov(i:Nat)(g:PV->PV->Option RV)(me:ag->OE)(ρ:ag):xr i g me ρ=(match ρ[i]? with
  | some (some (.sh x))=>(me ρ).cy ρ fun r=>match g x r.pv with
    |some (.sh z)=>.nx (ρ.set i (some (.sh z)))
    |_=>.bad
  |_=>.bad):=rfl
@[simp] theorem OB(x:PV)(ρ:ag):mC x ρ=.ok (.sh x):=rfl
@[simp] theorem OK(ρ:ag):aJ ρ=.ok []:=rfl
@[simp] theorem q9(r:RV)(f:RV->OE):OE.bind (.ok r) f=f r:=rfl
@[simp] theorem Kk(c:String)(fs:XF)(f:RV->OE):OE.bind (.exc c fs) f=.exc c fs:=rfl
@[simp] theorem Mf{p:Prop}[Decidable p](x y:OE)(f:RV->OE):OE.bind (if p then x else y) f=if p then OE.bind x f else OE.bind y f:=by split<;>rfl
@[simp] theorem Ly(r:RV)(f:RV->OT):OE.gF (.ok r) f=f r:=rfl
@[simp] theorem Jm(c:String)(fs:XF)(f:RV->OT):OE.gF (.exc c fs) f=.exc c fs:=rfl
@[simp] theorem Jo{p:Prop}[Decidable p](x y:OE)(f:RV->OT):OE.gF (if p then x else y) f=if p then OE.gF x f else OE.gF y f:=by split<;>rfl
@[simp] theorem Lj(r:RV)(f:RV->OA):OE.gb (.ok r) f=f r:=rfl
@[simp] theorem Jx(c:String)(fs:XF)(f:RV->OA):OE.gb (.exc c fs) f=.exc c fs:=rfl
@[simp] theorem JM{p:Prop}[Decidable p](x y:OE)(f:RV->OA):OE.gb (if p then x else y) f=if p then OE.gb x f else OE.gb y f:=by split<;>rfl
@[simp] theorem Mw(r:Bool)(f:Bool->OE):OT.bind (.ok r) f=f r:=rfl
@[simp] theorem Kf(c:String)(fs:XF)(f:Bool->OE):OT.bind (.exc c fs) f=.exc c fs:=rfl
@[simp] theorem LD{p:Prop}[Decidable p](x y:OT)(f:Bool->OE):OT.bind (if p then x else y) f=if p then OT.bind x f else OT.bind y f:=by split<;>rfl
@[simp] theorem LF(r:Bool)(f:Bool->OT):OT.gF (.ok r) f=f r:=rfl
@[simp] theorem Jf(c:String)(fs:XF)(f:Bool->OT):OT.gF (.exc c fs) f=.exc c fs:=rfl
@[simp] theorem Ji{p:Prop}[Decidable p](x y:OT)(f:Bool->OT):OT.gF (if p then x else y) f=if p then OT.gF x f else OT.gF y f:=by split<;>rfl
@[simp] theorem My(r:List PV)(f:List PV->OE):OA.bind (.ok r) f=f r:=rfl
@[simp] theorem LM(c:String)(fs:XF)(f:List PV->OE):OA.bind (.exc c fs) f=.exc c fs:=rfl
@[simp] theorem KP{p:Prop}[Decidable p](x y:OA)(f:List PV->OE):OA.bind (if p then x else y) f=if p then OA.bind x f else OA.bind y f:=by split<;>rfl
@[simp] theorem Ks(r:List PV)(f:List PV->OA):OA.gb (.ok r) f=f r:=rfl
@[simp] theorem JN(c:String)(fs:XF)(f:List PV->OA):OA.gb (.exc c fs) f=.exc c fs:=rfl
@[simp] theorem JL{p:Prop}[Decidable p](x y:OA)(f:List PV->OA):OA.gb (if p then x else y) f=if p then OA.gb x f else OA.gb y f:=by split<;>rfl
@[simp] theorem hU(ρ:ag)(r:RV)(f:RV->OS):OE.cy ρ (.ok r) f=f r:=rfl
@[simp] theorem Ja(ρ:ag)(c:String)(fs:XF)(f:RV->OS):OE.cy ρ (.exc c fs) f=.exc ρ c fs:=rfl
@[simp] theorem Js{p:Prop}[Decidable p](ρ:ag)(x y:OE)(f:RV->OS):OE.cy ρ (if p then x else y) f=if p then OE.cy ρ x f else OE.cy ρ y f:=by split<;>rfl
@[simp] theorem eK(ρ:ag)(r:Bool)(f:Bool->OS):OT.cy ρ (.ok r) f=f r:=rfl
@[simp] theorem Ju(ρ:ag)(c:String)(fs:XF)(f:Bool->OS):OT.cy ρ (.exc c fs) f=.exc ρ c fs:=rfl
@[simp] theorem JC{p:Prop}[Decidable p](ρ:ag)(x y:OT)(f:Bool->OS):OT.cy ρ (if p then x else y) f=if p then OT.cy ρ x f else OT.cy ρ y f:=by split<;>rfl
@[simp] theorem LK(ρ:ag)(r:List PV)(f:List PV->OS):OA.cy ρ (.ok r) f=f r:=rfl
@[simp] theorem JQ(ρ:ag)(c:String)(fs:XF)(f:List PV->OS):OA.cy ρ (.exc c fs) f=.exc ρ c fs:=rfl
@[simp] theorem Jl{p:Prop}[Decidable p](ρ:ag)(x y:OA)(f:List PV->OS):OA.cy ρ (if p then x else y) f=if p then OA.cy ρ x f else OA.cy ρ y f:=by split<;>rfl
@[simp] theorem jj(ρ:ag)(k:ag->OS):(OS.nx ρ).andThen k=k ρ:=rfl
@[simp] theorem iA(ρ:ag)(k:ag->OS):(OS.nx ρ).turn k=k ρ:=rfl
@[simp] theorem K4(ρ:ag)(k:ag->OS):(OS.bk ρ).andThen k=OS.bk ρ:=rfl
@[simp] theorem Ny(ρ:ag)(k:ag->OS):(OS.bk ρ).turn k=.nx ρ:=rfl
@[simp] theorem L0(ρ:ag)(k:ag->OS):(OS.ct ρ).andThen k=OS.ct ρ:=rfl
@[simp] theorem NP(ρ:ag)(k:ag->OS):(OS.ct ρ).turn k=k ρ:=rfl
@[simp] theorem v3(ρ:ag)(r:RV)(k:ag->OS):(OS.rt ρ r).andThen k=OS.rt ρ r:=rfl
@[simp] theorem C1(ρ:ag)(r:RV)(k:ag->OS):(OS.rt ρ r).turn k=OS.rt ρ r:=rfl
@[simp] theorem Jz(ρ:ag)(c:String)(fs:XF)(k:ag->OS):(OS.exc ρ c fs).andThen k=OS.exc ρ c fs:=rfl
@[simp] theorem M0(ρ:ag)(c:String)(fs:XF)(k:ag->OS):(OS.exc ρ c fs).turn k=OS.exc ρ c fs:=rfl
@[simp] theorem Jb{p:Prop}[Decidable p](x y:OS)(k:ag->OS):OS.andThen (if p then x else y) k=if p then x.andThen k else y.andThen k:=by split<;>rfl
@[simp] theorem Nq{p:Prop}[Decidable p](x y:OS)(k:ag->OS):OS.turn (if p then x else y) k=if p then x.turn k else y.turn k:=by split<;>rfl
@[simp] theorem OO(ρ:ag):fin (.nx ρ)=.ok (.sh .non):=rfl
@[simp] theorem NX(ρ:ag)(x:PV):fin (.rt ρ (.sh x))=.ok (.sh x):=rfl
@[simp] theorem Ob(ρ:ag)(x:List PV):fin (.rt ρ (.fr x))=.ok (.fr x):=rfl
@[simp] theorem NK(ρ:ag)(c:String)(fs:XF):fin (.exc ρ c fs)=.exc c fs:=rfl
@[simp] theorem Nt{p:Prop}[Decidable p](x y:OS):fin (if p then x else y)=if p then fin x else fin y:=by split<;>rfl
@[simp] theorem O1(x:PV):RV.pv (.sh x)=x:=rfl
@[simp] theorem GG(x:List PV):RV.pv (.fr x)=.lst x:=rfl
@[simp] theorem EY(x:List PV):RV.pv (.al x)=.lst x:=rfl
@[simp] theorem yp(r:RV):oE (some r)=.ok r:=rfl
@[simp] theorem Nu(r:Bool):oT (some r)=.ok r:=rfl
@[simp] theorem MB(i:Nat)(mb:ag->OS)(ρ:ag):jG i mb [] ρ=.nx ρ:=rfl
@[simp] theorem j4(i:Nat)(mb:ag->OS)(x:PV)(xs:List PV)(ρ:ag):jG i mb (x ::xs) ρ=(mb (ρ.set i (some (.sh x)))).turn (jG i mb xs):=rfl
@[simp] theorem Oe(i j:Int):dZ (.int i) (.int j)=some (.sh (.int (i+j))):=rfl
@[simp] theorem Oy(i j:Int):xp (.int i) (.int j)=some (.sh (.int (i - j))):=rfl
@[simp] theorem Oj(i j:Int):AS (.int i) (.int j)=if((decide (-(2 ^ 64)<i)&&decide (i<2 ^ 64))||(decide (-(2 ^ 64)<j)&&decide (j<2 ^ 64)))=true then some (.sh (.int (i*j)))else none:=rfl
@[simp] theorem NW(i j:Int):dH (.int i) (.int j)=if(decide (0<j)&&decide (j<1073741824))=true then some (.sh (.int (i/j)))else none:=rfl
@[simp] theorem N0(i j:Int):cI (.int i) (.int j)=if decide (0<j)=true then some (.sh (.int (i%j)))else none:=rfl
@[simp] theorem Pb(i j:Int):gLt (.int i) (.int j)=some (.sh (.bl (decide (i<j)))):=rfl
@[simp] theorem O4(i j:Int):gLe (.int i) (.int j)=some (.sh (.bl (decide (i<=j)))):=rfl
@[simp] theorem Pj(i j:Int):gGt (.int i) (.int j)=some (.sh (.bl (decide (j<i)))):=rfl
@[simp] theorem OY(i j:Int):gGe (.int i) (.int j)=some (.sh (.bl (decide (j<=i)))):=rfl
@[simp] theorem Pg(i j:Int):gEq (.int i) (.int j)=some (.sh (.bl (decide (i=j)))):=rfl
@[simp] theorem OW(i j:Int):gNe (.int i) (.int j)=some (.sh (.bl (!decide (i=j)))):=rfl
@[simp] theorem O3(i j:Bool):gEq (.bl i) (.bl j)=some (.sh (.bl (decide (i=j)))):=rfl
@[simp] theorem O7(i j:Bool):gNe (.bl i) (.bl j)=some (.sh (.bl (!decide (i=j)))):=rfl
@[simp] theorem Mp(xs:List PV):mM (.lst xs)=some (.sh (.int xs.length)):=rfl
@[simp] theorem Oc(xs:List PV):mM (.tup xs)=some (.sh (.int xs.length)):=rfl
@[simp] theorem N3(xs:List PV)(i:Int):gN (.lst xs) (.int i)=(atP xs i).map .sh:=rfl
@[simp] theorem OH(xs:List PV)(i:Int):eT (.tup xs) (.int i)=(atP xs i).map .sh:=rfl
@[simp] theorem L5(xs ys:List PV):nB (.lst xs) (.lst ys)=if xs.length+ys.length<=lim then some (.fr (xs++ys))else none:=rfl
@[simp] theorem N5{p:Prop}[Decidable p](x y:Option RV):oE (if p then x else y)=if p then oE x else oE y:=by split<;>rfl
@[simp] theorem Oh(b:Bool):vb (.bl b)=some b:=rfl
@[simp] theorem Ow(i:Int):vb (.int i)=some (i != 0):=rfl
@[simp] theorem ON(xs:List PV):vb (.lst xs)=some (!xs.isEmpty):=rfl
@[simp] theorem OR(xs:List PV):vb (.tup xs)=some (!xs.isEmpty):=rfl
@[simp] theorem N6:vb .non=some false:=rfl
@[simp] theorem Mv(i:Int):isP "int" (.int i)=some true:=rfl
@[simp] theorem Kl(i:Int):isP "bool" (.int i)=some false:=rfl
@[simp] theorem Me(i:Bool):isP "bool" (.bl i)=some true:=rfl
@[simp] theorem LP(xs:List PV):isP "list" (.lst xs)=some true:=rfl
@[simp] theorem Mz(xs:List PV):tV (.lst xs)=some (.fr xs):=rfl
@[simp] theorem Mt(xs:List PV):tV (.tup xs)=some (.fr xs):=rfl
@[simp] theorem N8(xs:List PV)(lo hi:Option Int):Ma (.lst xs) lo hi=some (.fr (Fz xs lo hi)):=rfl
@[simp] theorem NG:vL .non=none:=rfl
@[simp] theorem NH(i:Int):vL (.int i)=some i:=rfl
@[simp] theorem Oo(i:Int):hZ (.int i)=some (.sh (.int (-i))):=rfl
@[simp] theorem NO(i:Int):zR (.int i)=some (.sh (.int i)):=rfl
@[simp] theorem NB(i:Bool):zR (.bl i)=some (.sh (.int (if i then 1 else 0))):=rfl
@[simp] theorem NC(x:PV):mK (.sh x)=some x:=rfl
@[simp] theorem Nr(x:List PV):mK (.fr x)=some (.lst x):=rfl
@[simp] theorem HS(x:PV):EC (.sh x)=some (.sh x):=rfl
@[simp] theorem IX(x:List PV):EC (.fr x)=some (.ow x):=rfl
@[simp] theorem CL(np n:Nat)(m:ag->OS)(xs:List PV):fnP np n m xs=if xs.length=np then fin (m (lS n xs))else .bad:=rfl
@[simp] theorem tE(n:Nat)(xs:List PV):lS n xs=xs.map (fun x=>some (.sh x))++List.replicate (n - xs.length) none:=rfl
@[simp] theorem JZ(xs:List PV):BH (.sh (.lst xs))=some xs:=rfl
@[simp] theorem NN(xs:List PV):BH (.fr xs)=some xs:=rfl
@[simp] theorem NZ(x:PV):A9 x .non=some (.sh (.bl (cG x))):=rfl
@[simp] theorem NM(x:PV):xU x .non=some (.sh (.bl (!cG x))):=rfl
@[simp] theorem Fg(xs:List PV):noX (.ok xs)=if xs.length<=lim then .ok (.fr xs)else .bad:=rfl
@[simp] theorem KO(me:ag->OE)(ρ:ag):dc me ρ []=.ok []:=rfl
@[simp] theorem LL(f:RV->OE):OE.bind .bad f=.bad:=rfl
@[simp] theorem JV(f:RV->OT):OE.gF .bad f=.bad:=rfl
@[simp] theorem Jw(f:RV->OA):OE.gb .bad f=.bad:=rfl
@[simp] theorem KJ(f:Bool->OE):OT.bind .bad f=.bad:=rfl
@[simp] theorem Jk(f:Bool->OT):OT.gF .bad f=.bad:=rfl
@[simp] theorem KZ(f:List PV->OE):OA.bind .bad f=.bad:=rfl
@[simp] theorem JJ(f:List PV->OA):OA.gb .bad f=.bad:=rfl
@[simp] theorem Jy(ρ:ag)(f:RV->OS):OE.cy ρ .bad f=.bad:=rfl
@[simp] theorem Jr(ρ:ag)(f:Bool->OS):OT.cy ρ .bad f=.bad:=rfl
@[simp] theorem I9(ρ:ag)(f:List PV->OS):OA.cy ρ .bad f=.bad:=rfl
@[simp] theorem Jh(k:ag->OS):OS.bad.andThen k=.bad:=rfl
@[simp] theorem MQ(k:ag->OS):OS.bad.turn k=.bad:=rfl
@[simp] theorem NU:fin .bad=.bad:=rfl
@[simp] theorem NR:oE none=.bad:=rfl
@[simp] theorem Nw:oT none=.bad:=rfl
@[simp] theorem Nv(x:List PV):mK (.al x)=none:=rfl
@[simp] theorem NS(x:List PV):EC (.al x)=none:=rfl
@[simp] theorem O2:(0<=lim)=True:=by simp[lim]
@[simp] theorem Pa:(1<=lim)=True:=by simp[lim]
@[simp] theorem Pk:(2<=lim)=True:=by simp[lim]
@[simp] theorem Pc:(3<=lim)=True:=by simp[lim]
@[simp] theorem Pf:(4<=lim)=True:=by simp[lim]
@[simp] theorem O5:(5<=lim)=True:=by simp[lim]
@[simp] theorem Ph:(6<=lim)=True:=by simp[lim]
@[simp] theorem Pd:(7<=lim)=True:=by simp[lim]
@[simp] theorem O0:(8<=lim)=True:=by simp[lim]
@[simp] theorem O6:(9<=lim)=True:=by simp[lim]
@[simp] theorem Ou:(10<=lim)=True:=by simp[lim]
@[simp] theorem Of:(11<=lim)=True:=by simp[lim]
@[simp] theorem OQ:(12<=lim)=True:=by simp[lim]
@[simp] theorem OF:(13<=lim)=True:=by simp[lim]
@[simp] theorem OM:(14<=lim)=True:=by simp[lim]
@[simp] theorem N4:(15<=lim)=True:=by simp[lim]
@[simp] theorem OG:(16<=lim)=True:=by simp[lim]
theorem fj{n:Nat}(h:n<=1000000):n<=lim:=by unfold lim;omega
theorem oz{n:Nat}(h:n<=1000000):n<lim:=by unfold lim;omega
theorem kz{α:Type}(xs:List α)(k:Nat):atP xs (k:Int)=xs[k]?:=by
 unfold atP ixP
 by_cases h:k<xs.length
 . simp[h]
 . simp[h]
@[simp] theorem OZ{α:Type}(xs:List α):atP xs 0=xs[0]?:=kz xs 0
@[simp] theorem O8{α:Type}(xs:List α):atP xs 1=xs[1]?:=kz xs 1
@[simp] theorem NI{α:Type}(xs:List α)(n:Nat):atP xs (no_index (OfNat.ofNat n:Int))=xs[n]?:=kz xs n
theorem Gq{α:Type}(xs:List α)(i:Int)(h:0<=i):atP xs i=xs[i.toNat]?:=by
 have:=kz xs i.toNat
 rwa [Int.toNat_of_nonneg h]at this
@[simp] theorem O9(T:String)(ma:ag->OE)(ρ:ag):mIs T ma ρ=(ma ρ).bind fun a=>oE ((isP T a.pv).map fun b=>.sh (.bl b)):=rfl
@[simp] theorem zO(ns:List Bool):sW (ns.map .bl)=some ns:=by
  induction ns with
  |nil=>rfl
  |cons n ns ih=>show(sW (ns.map .bl)).map (n ::·)=_;rw[ih];rfl
@[simp] theorem K3(n:Nat):(cT n).length=n:=by simp[cT]
theorem kb{me:ag->OE}{ρ:ag}{α:Type}{g:α->PV}{f:α->PV}(l:List α)(h:∀ a∈l,me (ρ++[some (.sh (g a))])=.ok (.sh (f a))):dc me ρ (l.map g)=.ok (l.map f):=by
 induction l with
 |nil=>rfl
 | cons a l ih=>
   have h1:=h a (List.mem_cons_self)
   have h2:=ih fun b hb=>h b (List.mem_cons_of_mem _ hb)
   simp[dc,h1,h2]
def G9(i:Nat)(mk mv:ag->OE):ag->OS:=fun ρ=>match ρ[i]? with
 | some (some (.ow xs))=>(mv ρ).cy ρ fun r=>match mK r with
   | some y=>(mk ρ).cy ρ fun kk=>match kk.pv with
     | .int k=>match ixP xs.length k with
       |some j=>.nx (ρ.set i (some (.ow (xs.set j y))))
       |none=>.bad
     |_=>.bad
   |none=>.bad
 |_=>.bad
@[simp] theorem Ot(i:Nat)(mk mv:ag->OE)(ρ:ag):G9 i mk mv ρ=match ρ[i]? with
  | some (some (.ow xs))=>(mv ρ).cy ρ fun r=>match mK r with
    | some y=>(mk ρ).cy ρ fun kk=>match kk.pv with
      | .int k=>match ixP xs.length k with
        |some j=>.nx (ρ.set i (some (.ow (xs.set j y))))
        |none=>.bad
      |_=>.bad
    |none=>.bad
  |_=>.bad:=rfl
end L2.P
namespace L2.P
open PySem PySem.Spec PyProof.Rows L2 L2.E
mutual
def Rep(K:PySem.W.Frag)(S:Hp):PV->V->Prop
 |.non,v=>v=.non
 |.bl b,v=>v=.bl b
 |.int i,v=>v=.int i
 |.str s,v=>v=.str s
 |.lst xs,v=>∃ p vs,v=.ref p /\ SqL K S p vs /\ b0 K S xs vs
 |.tup xs,v=>∃ p vs,v=.ref p /\ SqT K S p vs /\ b0 K S xs vs
def b0(K:PySem.W.Frag)(S:Hp):List PV->List V->Prop
 |[],vs=>vs=[]
 |x ::xs,vs=>∃ v r,vs=v ::r /\ Rep K S x v /\ b0 K S xs r
end
theorem _root_.L2.aK.tup{K:PySem.W.Frag}(e:aK H H')(h:SqT K H a xs):SqT K H' a xs:=by
 rcases h with(h|⟨o,h⟩)|h
 . exact .inl (.inl (e _ _ h))
 . exact .inl (.inr ⟨o,e _ _ h⟩)
 . exact .inr h
section
variable{K:PySem.W.Frag}{S S':Hp}
mutual
theorem Rep.mono(s:aK S S'):∀{x:PV} {v:V},Rep K S x v->Rep K S' x v
 |.non,_,h=>by unfold Rep at h ⊢;exact h
 |.bl _,_,h=>by unfold Rep at h ⊢;exact h
 |.int _,_,h=>by unfold Rep at h ⊢;exact h
 |.str _,_,h=>by unfold Rep at h ⊢;exact h
 | .lst _,_,h=>by
   unfold Rep at h ⊢
   obtain⟨p,vs,e,q,r⟩:=h
   exact⟨p,vs,e,aK.seq s q,b0.mono s r⟩
 | .tup _,_,h=>by
   unfold Rep at h ⊢
   obtain⟨p,vs,e,q,r⟩:=h
   exact⟨p,vs,e,aK.tup s q,b0.mono s r⟩
theorem b0.mono(s:aK S S'):∀{xs:List PV} {vs:List V},b0 K S xs vs->b0 K S' xs vs
 |[],_,h=>by unfold b0 at h ⊢;exact h
 | _ ::_,_,h=>by
   unfold b0 at h ⊢
   obtain⟨v,r,e,q,t⟩:=h
   exact⟨v,r,e,Rep.mono s q,b0.mono s t⟩
end
theorem b0.nil:b0 K S [] []:=by unfold b0;rfl
theorem b0.cons(h:Rep K S x v)(t:b0 K S xs vs):b0 K S (x ::xs) (v ::vs):=by unfold b0;exact⟨v,vs,rfl,h,t⟩
theorem b0.nil_inv(h:b0 K S [] vs):vs=[]:=by unfold b0 at h;exact h
theorem b0.cons_inv(h:b0 K S (x ::xs) vs):∃ v r,vs=v ::r /\ Rep K S x v /\ b0 K S xs r:=by unfold b0 at h;exact h
theorem b0.append(h:b0 K S xs vs)(t:b0 K S ys us):b0 K S (xs++ys) (vs++us):=by
 induction xs generalizing vs with
 |nil=>rw[h.nil_inv];exact t
 | cons x xs ih=>
   obtain⟨v,r,rfl,q,h'⟩:=h.cons_inv;exact .cons q (ih h')
theorem b0.length{xs:List PV}{vs:List V}(h:b0 K S xs vs):vs.length=xs.length:=by
 induction xs generalizing vs with
 |nil=>rw[h.nil_inv];rfl
 | cons x xs ih=>
   obtain⟨v,r,rfl,q,h'⟩:=h.cons_inv;simp[ih h']
theorem b0.get(h:b0 K S xs vs):∀{i:Nat} {x:PV},xs[i]?=some x->∃ v,vs[i]?=some v /\ Rep K S x v:=by
 induction xs generalizing vs with
 |nil=>intro i x e;simp at e
 | cons y xs ih=>
   obtain⟨v,r,rfl,q,h'⟩:=h.cons_inv;intro i x e
   cases i with
   |zero=>simp at e;subst e;exact⟨v,rfl,q⟩
   |succ i=>simp at e;obtain⟨u,e1,e2⟩:=ih h' e;exact⟨u,by simpa using e1,e2⟩
theorem b0.Nc{xs:List PV}{vs:List V}(h:b0 K S xs vs){i:Nat}{v:V}(e:vs[i]?=some v):∃ x,xs[i]?=some x /\ Rep K S x v:=by
 have hi:i<xs.length:=by rw[<- h.length];exact(List.getElem?_eq_some_iff.mp e).1
 obtain⟨u,e1,e2⟩:=h.get (i:=i) (x:=xs[i]) (by simp[hi]);rw[e]at e1;cases e1
 exact⟨_,by simp[hi],e2⟩
theorem b0.take{xs:List PV}{vs:List V}(h:b0 K S xs vs):∀ n,b0 K S (xs.take n) (vs.take n):=by
 induction xs generalizing vs with
 |nil=>intro n;rw[h.nil_inv];simpa using b0.nil
 | cons y xs ih=>
   obtain⟨v,r,rfl,q,h'⟩:=h.cons_inv;intro n
   cases n with
   |zero=>exact .nil
   |succ n=>exact .cons q (ih h' n)
theorem b0.drop{xs:List PV}{vs:List V}(h:b0 K S xs vs):∀ n,b0 K S (xs.drop n) (vs.drop n):=by
 induction xs generalizing vs with
 |nil=>intro n;rw[h.nil_inv];simpa using b0.nil
 | cons y xs ih=>
   obtain⟨v,r,rfl,q,h'⟩:=h.cons_inv;intro n
   cases n with
   |zero=>exact .cons q h'
   |succ n=>exact ih h' n
theorem b0.ints{ns:List Int}:b0 K S (ns.map .int) (ns.map V.int):=by
 induction ns with
 |nil=>exact .nil
 |cons n ns ih=>exact .cons (by unfold Rep;rfl) ih
theorem b0.set{xs:List PV}{vs:List V}(h:b0 K S xs vs)(q:Rep K S x v):∀ i,b0 K S (xs.set i x) (vs.set i v):=by
 induction xs generalizing vs with
 |nil=>intro i;rw[h.nil_inv];exact .nil
 | cons y xs ih=>
   obtain⟨u,r,rfl,qu,h'⟩:=h.cons_inv;intro i
   cases i with
   |zero=>exact .cons q h'
   |succ i=>exact .cons qu (ih h' i)
end
def qo(K:PySem.W.Frag)(cls:String->Option Addr)(S H:Hp)(c:String)(fs:XF)(a C:Addr):Prop:=
 cls c=some C /\ ∃ dx,H a=some (zY a C dx) /\ (fs=[] \/ ∃ d us,dx=some d /\ H d=some (.xd us) /\ fs.map (·.1)=us.map (·.1) /\ b0 K S (fs.map (·.2)) (us.map (·.2)))
def isX:HO->Bool
 |.ext _=>true
 |.xd _=>true
 |_=>false
def yC(K:PySem.W.Frag)(S:Hp)(kvs:List (Int×PV))(us:List (Key×V)):Prop:=Paired (fun (p:Int×PV) (q:Key×V)=>q.1=Sum.inl p.1 /\ Rep K S p.2 q.2) kvs us
def zS(K:PySem.W.Frag)(S:Hp)(kvs:List (List Int×PV))(us:List (List Key×V)):Prop:=Paired (fun (p:List Int×PV) (q:List Key×V)=>q.1=p.1.map Sum.inl /\ Rep K S p.2 q.2) kvs us
theorem yC.mono{K:PySem.W.Frag}(s:aK S S'):∀{kvs:List (Int×PV)} {us:List (Key×V)},yC K S kvs us->yC K S' kvs us
 |_,_,.nil=>.nil
 |_,_,.cons h t=>.cons ⟨h.1,Rep.mono s h.2⟩ (yC.mono s t)
theorem zS.mono{K:PySem.W.Frag}(s:aK S S'):∀{kvs:List (List Int×PV)} {us:List (List Key×V)},zS K S kvs us->zS K S' kvs us
 |_,_,.nil=>.nil
 |_,_,.cons h t=>.cons ⟨h.1,Rep.mono s h.2⟩ (zS.mono s t)
mutual
def bz(K:PySem.W.Frag)(cls:String->Option Addr)(S H:Hp):OV->V->List Addr->Prop
 |.sh x,v,fp=>fp=[] /\ Rep K S x v
 |.ol ts,v,fp=>∃ p vs f,v=.ref p /\ H p=some (.lst vs) /\ fp=p ::f /\ bC K cls S H ts vs f
 |.ob c ks ts,v,fp=>∃ p C dx us f,v=.ref p /\ cls c=some C /\ H p=some (.ins C dx us) /\ H dx=some (.own p) /\ us.map (·.1)=ks /\ fp=p ::dx ::f /\ bC K cls S H ts (us.map (·.2)) f
 |.di kvs,v,fp=>∃ p us,v=.ref p /\ H p=some (.dK us) /\ fp=[p] /\ yC K S kvs us
 |.dt kvs,v,fp=>∃ p us,v=.ref p /\ H p=some (.dT us) /\ fp=[p] /\ zS K S kvs us
def bC(K:PySem.W.Frag)(cls:String->Option Addr)(S H:Hp):List OV->List V->List Addr->Prop
 |[],vs,fp=>vs=[] /\ fp=[]
 |t ::ts,vs,fp=>∃ v r f1 f2,vs=v ::r /\ fp=f1++f2 /\ bz K cls S H t v f1 /\ bC K cls S H ts r f2
end
def vi(K:PySem.W.Frag)(cls:String->Option Addr)(Av G S H:Hp)(i:Nat):Sl->V->List Addr->Prop
 |.sh x,v,fp=>fp=[] /\ Rep K S x v
 |.ow xs,v,fp=>∃ p vs,v=.ref p /\ fp=[p] /\ G p=none /\ S p=none /\ H p=some (.lst vs) /\ b0 K S xs vs
 |.ex c fs,v,fp=>fp=[] /\ ∃ a C,v=.ref a /\ qo K cls S H c fs a C
 |.tr io t,v,fp=>bz K cls S H t v fp /\ fp.Nodup /\ (∀ a∈fp,G a=none /\ S a=none) /\ (io=true->Av i=some (.lst [v]))
 |.bo t,v,fp=>fp=[] /\ ∃ f,bz K cls S G t v f
def JB(K:PySem.W.Frag)(cls:String->Option Addr)(G S H:Hp):Sl->V->Prop
 |.sh x,v=>Rep K S x v
 |.ow xs,v=>∃ p vs,v=.ref p /\ G p=none /\ S p=none /\ H p=some (.lst vs) /\ b0 K S xs vs
 |.ex c fs,v=>∃ a C,v=.ref a /\ qo K cls S H c fs a C
 |_,_=>True
def nR(K:PySem.W.Frag)(B S H:Hp):RV->V->Prop
 |.sh x,v=>Rep K S x v
 |.fr xs,v=>∃ p vs,v=.ref p /\ B p=none /\ S p=none /\ H p=some (.lst vs) /\ b0 K S xs vs
 |.al xs,v=>∃ p vs,v=.ref p /\ SqL K H p vs /\ b0 K S xs vs
def RdV(K:PySem.W.Frag)(S H:Hp):PV->V->Prop
 |.lst xs,v=>∃ p vs,v=.ref p /\ SqL K H p vs /\ b0 K S xs vs
 |x,v=>Rep K S x v
structure SRF(K:PySem.W.Frag)(cls:String->Option Addr)(Av G S₀:Hp)(ρ:ag)(σ:St)(S H:Hp)(F:Nat->List Addr):Prop where
 gh:aK G H
 s0:aK S₀ S
 sh:aK S H
 new:∀ b,S b≠none->S₀ b≠none \/ G b=none
 own:∀(i:Nat) (s:Sl),ρ[i]?=some (some s)->∃ v,σ[i]?=some (some v) /\ vi K cls Av G S H i s v (F i)
 apart:∀ i j a,a∈F i->a∈F j->i=j
 live:∀ i a,a∈F i->(∃ o,H a=some o /\ isX o=false) /\ G a=none /\ S a=none
 len:ρ.length=σ.length
def SR(K:PySem.W.Frag)(cls:String->Option Addr)(Av G S₀:Hp)(ρ:ag)(σ:St)(S H:Hp):Prop:=∃ F,SRF K cls Av G S₀ ρ σ S H F
section
variable{K:PySem.W.Frag}{cls:String->Option Addr}{Av G S₀ S S' H H' B:Hp}{ρ:ag}{σ:St}{F:Nat->List Addr}
theorem SR.gh(I:SR K cls Av G S₀ ρ σ S H):aK G H:=let ⟨_,J⟩:=I;J.gh
theorem SR.s0(I:SR K cls Av G S₀ ρ σ S H):aK S₀ S:=let ⟨_,J⟩:=I;J.s0
theorem SR.sh(I:SR K cls Av G S₀ ρ σ S H):aK S H:=let ⟨_,J⟩:=I;J.sh
theorem SR.new(I:SR K cls Av G S₀ ρ σ S H):∀ b,S b≠none->S₀ b≠none \/ G b=none:=let ⟨_,J⟩:=I;J.new
theorem SR.len(I:SR K cls Av G S₀ ρ σ S H):ρ.length=σ.length:=let ⟨_,J⟩:=I;J.len
theorem vi.one(h:vi K cls Av G S H i s v fp):JB K cls G S H s v:=by
 cases s with
 |sh x=>exact h.2
 |ow xs=>obtain⟨p,vs,e,_,r⟩:=h;exact⟨p,vs,e,r⟩
 |ex c fs=>exact h.2
 |tr io t=>trivial
 |bo t=>trivial
theorem SR.good(I:SR K cls Av G S₀ ρ σ S H)(i:Nat)(s:Sl)(e:ρ[i]?=some (some s)):∃ v,σ[i]?=some (some v) /\ JB K cls G S H s v:=by
 obtain⟨F,J⟩:=I;obtain⟨v,e1,r⟩:=J.own i s e
 exact⟨v,e1,r.one⟩
theorem qo.mono(h:qo K cls S H c fs a C)(s:aK S S')(g:aK H H'):qo K cls S' H' c fs a C:=by
 obtain⟨h1,dx,h2,h3⟩:=h
 refine⟨h1,dx,g _ _ h2,?_⟩
 rcases h3 with h3|⟨d,us,e1,e2,e3,e4⟩
 . exact .inl h3
 . exact .inr ⟨d,us,e1,g _ _ e2,e3,e4.mono s⟩
theorem qo.Np(h:qo K cls S H c fs a C)(s:aK S S')(g:∀ b o,isX o=true->H b=some o->H' b=some o):qo K cls S' H' c fs a C:=by
 obtain⟨h1,dx,h2,h3⟩:=h
 refine⟨h1,dx,g _ _ rfl h2,?_⟩
 rcases h3 with h3|⟨d,us,e1,e2,e3,e4⟩
 . exact .inl h3
 . exact .inr ⟨d,us,e1,g _ _ rfl e2,e3,e4.mono s⟩
mutual
theorem bz.mono(s:aK S S'):∀{t:OV} {v:V} {fp:List Addr},bz K cls S H t v fp->(∀ a∈fp,∀ o,H a=some o->H' a=some o)->bz K cls S' H' t v fp
 |.sh _,_,_,h,_=>by unfold bz at h ⊢;exact⟨h.1,Rep.mono s h.2⟩
 | .ol _,_,_,h,g=>by
   unfold bz at h ⊢
   obtain⟨p,vs,f,e,q,e2,r⟩:=h;subst e2
   exact⟨p,vs,f,e,g p (by simp) _ q,rfl,bC.mono s r fun a ha=>g a (by simp[ha])⟩
 | .ob _ _ _,_,_,h,g=>by
   unfold bz at h ⊢
   obtain⟨p,C,dx,us,f,e,c,q,q2,k,e2,r⟩:=h;subst e2
   exact⟨p,C,dx,us,f,e,c,g p (by simp) _ q,g dx (by simp) _ q2,k,rfl,bC.mono s r fun a ha=>g a (by simp[ha])⟩
 | .di _,_,_,h,g=>by
   unfold bz at h ⊢
   obtain⟨p,us,e,q,e2,r⟩:=h;subst e2
   exact⟨p,us,e,g p (by simp) _ q,rfl,r.mono s⟩
 | .dt _,_,_,h,g=>by
   unfold bz at h ⊢
   obtain⟨p,us,e,q,e2,r⟩:=h;subst e2
   exact⟨p,us,e,g p (by simp) _ q,rfl,r.mono s⟩
theorem bC.mono(s:aK S S'):∀{ts:List OV} {vs:List V} {fp:List Addr},bC K cls S H ts vs fp->(∀ a∈fp,∀ o,H a=some o->H' a=some o)->bC K cls S' H' ts vs fp
 |[],_,_,h,_=>by unfold bC at h ⊢;exact h
 | _ ::_,_,_,h,g=>by
   unfold bC at h ⊢
   obtain⟨v,r,f1,f2,e,e2,q,t⟩:=h;subst e2
   exact⟨v,r,f1,f2,e,rfl,bz.mono s q fun a ha=>g a (List.mem_append_left _ ha),bC.mono s t fun a ha=>g a (List.mem_append_right _ ha)⟩
end
mutual
theorem bz.live:∀{t:OV} {v:V} {fp:List Addr},bz K cls S H t v fp->∀ a∈fp,∃ o,H a=some o /\ isX o=false
 |.sh _,_,_,h,a,ha=>by unfold bz at h;rw[h.1]at ha;cases ha
 | .ol _,_,_,h,a,ha=>by
   unfold bz at h;obtain⟨p,vs,f,e,q,e2,r⟩:=h;subst e2
   rcases List.mem_cons.mp ha with z|z
   . subst z;exact⟨_,q,rfl⟩
   . exact bC.live r a z
 | .ob _ _ _,_,_,h,a,ha=>by
   unfold bz at h;obtain⟨p,C,dx,us,f,e,c,q,q2,k,e2,r⟩:=h;subst e2
   rcases List.mem_cons.mp ha with z|z
   . subst z;exact⟨_,q,rfl⟩
   . rcases List.mem_cons.mp z with z|z
     . subst z;exact⟨_,q2,rfl⟩
     . exact bC.live r a z
 | .di _,_,_,h,a,ha=>by
   unfold bz at h;obtain⟨p,us,e,q,e2,r⟩:=h;subst e2
   have z:a=p:=by simpa using ha
   subst z
   exact⟨_,q,rfl⟩
 | .dt _,_,_,h,a,ha=>by
   unfold bz at h;obtain⟨p,us,e,q,e2,r⟩:=h;subst e2
   have z:a=p:=by simpa using ha
   subst z
   exact⟨_,q,rfl⟩
theorem bC.live:∀{ts:List OV} {vs:List V} {fp:List Addr},bC K cls S H ts vs fp->∀ a∈fp,∃ o,H a=some o /\ isX o=false
 |[],_,_,h,a,ha=>by unfold bC at h;rw[h.2]at ha;cases ha
 | _ ::_,_,_,h,a,ha=>by
   unfold bC at h;obtain⟨v,r,f1,f2,e,e2,q,t⟩:=h;subst e2
   rcases List.mem_append.mp ha with z|z
   . exact bz.live q a z
   . exact bC.live t a z
end
theorem vi.mono(h:vi K cls Av G S H i sl v fp)(s:aK S S')(g:∀ a∈fp,∀ o,H a=some o->H' a=some o)(x:∀ b o,isX o=true->H b=some o->H' b=some o)(n:∀ a∈fp,S' a=none):vi K cls Av G S' H' i sl v fp:=by
 cases sl with
 |sh y=>exact⟨h.1,Rep.mono s h.2⟩
 | ow xs=>
   obtain⟨p,vs,e,e2,h1,h2,h3,h4⟩:=h;subst e2
   exact⟨p,vs,e,rfl,h1,n p (by simp),g p (by simp) _ h3,h4.mono s⟩
 |ex c fs=>obtain⟨e,a,C,e2,q⟩:=h;exact⟨e,a,C,e2,q.Np s x⟩
 |tr io t=>exact⟨h.1.mono s g,h.2.1,fun a ha=>⟨(h.2.2.1 a ha).1,n a ha⟩,h.2.2.2⟩
 |bo t=>obtain⟨e,f,r⟩:=h;exact⟨e,f,r.mono s fun _ _ _ z=>z⟩
theorem RdV.mono(h:RdV K S H x v)(s:aK S S')(g:aK H H'):RdV K S' H' x v:=by
 cases x with
 |lst xs=>obtain⟨p,vs,e,q,r⟩:=h;exact⟨p,vs,e,aK.seq g q,r.mono s⟩
 |non=>exact Rep.mono s h
 |bl b=>exact Rep.mono s h
 |int i=>exact Rep.mono s h
 |str x=>exact Rep.mono s h
 |tup xs=>exact Rep.mono s h
theorem Rep.rd(h:Rep K S x v)(g:aK S H):RdV K S H x v:=by
 cases x with
 |lst xs=>unfold Rep at h;obtain⟨p,vs,e,q,r⟩:=h;exact⟨p,vs,e,aK.seq g q,r⟩
 |non=>exact h
 |bl b=>exact h
 |int i=>exact h
 |str x=>exact h
 |tup xs=>exact h
theorem nR.rd{r:RV}(h:nR K B S H r v)(g:aK S H):RdV K S H r.pv v:=by
 cases r with
 |sh x=>exact Rep.rd h g
 |fr xs=>obtain⟨p,vs,e,_,_,q,r⟩:=h;exact⟨p,vs,e,SqL.new q,r⟩
 |al xs=>exact h
theorem SRF.change(I:SRF K cls Av G S₀ ρ σ S H F)(gh:aK G H')(s:aK S S')(sh:aK S' H')(new:∀ b,S' b≠none->S₀ b≠none \/ G b=none)
  (g:∀ i a,a∈F i->∀ o,H a=some o->H' a=some o) (x:∀ b o,isX o=true->H b=some o->H' b=some o) (n:∀ i a,a∈F i->S' a=none):SRF K cls Av G S₀ ρ σ S' H' F where
 gh:=gh
 s0:=I.s0.trans s
 sh:=sh
 new:=new
 own:=fun i t e=>by
  obtain⟨v,e1,r⟩:=I.own i t e
  exact⟨v,e1,r.mono s (fun a ha=>g i a ha) x fun a ha=>n i a ha⟩
 apart:=I.apart
 live:=fun i a ha=>by
  obtain⟨⟨o,h1,h2⟩,h3,_⟩:=I.live i a ha
  exact⟨⟨o,g i a ha o h1,h2⟩,h3,n i a ha⟩
 len:=I.len
theorem SRF.same(I:SRF K cls Av G S₀ ρ σ S H F)(g:aK H H'):SRF K cls Av G S₀ ρ σ S H' F:=
 I.change (I.gh.trans g) (aK.refl _) (I.sh.trans g) I.new (fun _ _ _ o e=>g _ _ e) (fun _ _ _ e=>g _ _ e) fun i a ha=>(I.live i a ha).2.2
theorem SR.same(I:SR K cls Av G S₀ ρ σ S H)(g:aK H H'):SR K cls Av G S₀ ρ σ S H':=let ⟨F,J⟩:=I;⟨F,J.same g⟩
theorem set_inv{α:Type}{l:List (Option α)}{x:Option α}{s:α}(h:(l.set i x)[j]?=some (some s)):(j=i /\ x=some s /\ i<l.length) \/ (j≠i /\ l[j]?=some (some s)):=by
 by_cases e:j=i
 . subst e;rw[List.getElem?_set]at h;simp only[if_true]at h;split at h
   . rename_i hl;exact .inl ⟨rfl,Option.some.inj h,hl⟩
   . cases h
 . rw[List.getElem?_set_ne (Ne.symm e)]at h;exact .inr ⟨e,h⟩
theorem LZ{α:Type}{l:List (Option α)}{x:Option α}(h:i<l.length):(l.set i x)[i]?=some x:=by
 rw[List.getElem?_set];simp[h]
def pK(F:Nat->List Addr)(i:Nat)(fp:List Addr):Nat->List Addr:=fun j=>if j=i then fp else F j
theorem jE:pK F i fp i=fp:=by unfold pK;rw[if_pos rfl]
theorem fR(h:j≠i):pK F i fp j=F j:=by unfold pK;rw[if_neg h]
theorem SRF.put(I:SRF K cls Av G S₀ ρ σ S H F)(h:∀ t,s=some t->∃ v,u=some v /\ vi K cls Av G S H i t v fp)
  (hl:∀ a∈fp,(∃ o,H a=some o /\ isX o=false) /\ G a=none /\ S a=none) (ap:∀ j a,j≠i->a∈fp->a∉F j):SRF K cls Av G S₀ (ρ.set i s) (σ.set i u) S H (pK F i fp) where
 gh:=I.gh
 s0:=I.s0
 sh:=I.sh
 new:=I.new
 own:=fun j t e=>by
  rcases set_inv e with⟨rfl,e1,hl⟩|⟨ne,e1⟩
  . obtain⟨v,e2,r⟩:=h t e1
    exact⟨v,by rw[LZ (by rw[<- I.len];exact hl),e2],by rw[jE];exact r⟩
  . rw[List.getElem?_set_ne (Ne.symm ne),fR ne];exact I.own j t e1
 apart:=fun j k a h1 h2=>by
  by_cases ej:j=i
  . by_cases ek:k=i
    . rw[ej,ek]
    . subst ej;rw[jE]at h1;rw[fR ek]at h2;exact absurd h2 (ap k a ek h1)
  . by_cases ek:k=i
    . subst ek;rw[jE]at h2;rw[fR ej]at h1;exact absurd h1 (ap j a ej h2)
    . rw[fR ej]at h1;rw[fR ek]at h2;exact I.apart j k a h1 h2
 live:=fun j a ha=>by
  by_cases ej:j=i
  . subst ej;rw[jE]at ha;exact hl a ha
  . rw[fR ej]at ha;exact I.live j a ha
 len:=by simp[I.len]
theorem SR.Ao(I:SR K cls Av G S₀ ρ σ S H)(h:Rep K S x v):SR K cls Av G S₀ (ρ.set i (some (.sh x))) (σ.set i (some v)) S H:=by
 obtain⟨F,J⟩:=I
 exact⟨_,J.put (fp:=[]) (fun t e=>by cases e;exact⟨v,rfl,rfl,h⟩) (fun a ha=>nomatch ha) fun j a _ ha=>nomatch ha⟩
theorem SR.Ni(I:SR K cls Av G S₀ ρ σ S H):SR K cls Av G S₀ (ρ.set i none) (σ.set i v) S H:=by
 obtain⟨F,J⟩:=I
 exact⟨_,J.put (fp:=[]) (fun t e=>nomatch e) (fun a ha=>nomatch ha) fun j a _ ha=>nomatch ha⟩
theorem lZ{α:Type}{l:List α}{x:α}(h:l[i]?=some x):l.set i x=l:=by
 apply List.ext_getElem?;intro j
 by_cases e:i=j
 . subst e;rw[List.getElem?_set,if_pos rfl,if_pos (List.getElem?_eq_some_iff.mp h).1,h]
 . rw[List.getElem?_set_ne e]
theorem SR.drop(I:SR K cls Av G S₀ ρ σ S H):SR K cls Av G S₀ (ρ.set i none) σ S H:=by
 cases e:σ[i]? with
 |some v=>have:=I.Ni (i:=i) (v:=v);rwa [lZ e]at this
 | none=>
   have h1:σ.length<=i:=List.getElem?_eq_none_iff.mp e
   rw[List.set_eq_of_length_le (by rw[I.len];exact h1)];exact I
theorem SR.mut(I:SR K cls Av G S₀ ρ σ S H)(hi:ρ[i]?=some (some (.ow xs)))(hv:σ[i]?=some (some (.ref p)))(hr:b0 K S ys us):SR K cls Av G S₀ (ρ.set i (some (.ow ys))) σ S (upd H p (.lst us)):=by
 obtain⟨F,J⟩:=I;obtain⟨v,e1,q,vs,e2,e3,hG,hS,hH,_⟩:=J.own i _ hi;rw[hv]at e1;cases e1;cases e2
 have J1:SRF K cls Av G S₀ (ρ.set i none) (σ.set i none) S H (pK F i []):=J.put (fun t e=>nomatch e) (fun a ha=>nomatch ha) fun j a _ ha=>nomatch ha
 have off:∀ j a,a∈pK F i [] j->a≠p:=fun j a ha z=>by
  by_cases ej:j=i
  . subst ej;rw[jE]at ha;cases ha
  . rw[fR ej]at ha;exact ej (J.apart j i a ha (by rw[e3,z];simp))
 have J2:=J1.change (H':=upd H p (.lst us)) (J.gh.upd hG) (aK.refl _) (J.sh.upd hS) J.new (fun j a ha o h=>by rw[bP (off j a ha)];exact h)
  (fun b o hx h=>by
    rw[bP]
    . exact h
    . intro z;rw[z,hH]at h;cases h;cases hx)
  fun j a ha=>(J1.live j a ha).2.2
 have J3:=J2.put (i:=i) (s:=some (.ow ys)) (u:=some (.ref p)) (fp:=[p]) (fun t e=>by cases e;exact⟨_,rfl,p,us,rfl,rfl,hG,hS,bL,hr⟩) (fun a ha=>by
  have z:a=p:=by simpa using ha
  subst z
  exact⟨⟨_,bL,rfl⟩,hG,hS⟩) fun j a hj ha hz=>by
   have z:a=p:=by simpa using ha
   exact off j a hz z
 rw[List.set_set,List.set_set,lZ hv]at J3
 exact⟨_,J3⟩
theorem SR.MZ(I:SR K cls Av G S₀ ρ σ S H)(hi:ρ[i]?=some (some (.ow xs))):∃ S',aK S S' /\ SR K cls Av G S₀ (ρ.set i (some (.sh (.lst xs)))) σ S' H:=by
 obtain⟨F,J⟩:=I;obtain⟨v,hv,p,vs,e2,e3,hG,hS,hH,hr⟩:=J.own i _ hi;subst e2
 have J1:SRF K cls Av G S₀ (ρ.set i none) (σ.set i none) S H (pK F i []):=J.put (fun t e=>nomatch e) (fun a ha=>nomatch ha) fun j a _ ha=>nomatch ha
 have off:∀ j a,a∈pK F i [] j->a≠p:=fun j a ha z=>by
  by_cases ej:j=i
  . subst ej;rw[jE]at ha;cases ha
  . rw[fR ej]at ha;exact ej (J.apart j i a ha (by rw[e3,z];simp))
 have J2:=J1.change (S':=upd S p (.lst vs)) (H':=H) J.gh (aK.new hS) (fun b u h=>by
   by_cases e:b=p
   . subst e;rw[bL]at h;cases h;exact hH
   . rw[bP e]at h;exact J.sh b u h) (fun b h=>by
   by_cases e:b=p
   . subst e;exact .inr hG
   . rw[bP e]at h;exact J.new b h) (fun _ _ _ _ h=>h) (fun _ _ _ h=>h) fun j a ha=>by
     rw[bP (off j a ha)];exact(J1.live j a ha).2.2
 have J3:=J2.put (i:=i) (s:=some (.sh (.lst xs))) (u:=some (.ref p)) (fp:=[]) (fun t e=>by
  cases e
  refine⟨_,rfl,rfl,?_⟩
  unfold Rep
  exact⟨p,vs,rfl,SqL.new bL,hr.mono (aK.new hS)⟩) (fun a ha=>nomatch ha) fun j a _ ha=>nomatch ha
 rw[List.set_set,List.set_set,lZ hv]at J3
 exact⟨_,aK.new hS,_,J3⟩
end
structure bj(S H S' H':Hp):Prop where
 s:aK S S'
 g:aK H H'
 sh:aK S' H'
 new:∀ b,S' b≠none->S b≠none \/ H b=none
theorem bj.refl(h:aK S H):bj S H S H:=⟨aK.refl _,aK.refl _,h,fun _ z=>.inl z⟩
theorem bj.trans(a:bj S H S1 H1)(b:bj S1 H1 S2 H2):bj S H S2 H2:=
 ⟨a.s.trans b.s,a.g.trans b.g,b.sh,fun x h=>by
   rcases b.new x h with z|z
   . exact a.new x z
   . exact .inr (a.g.free z)⟩
theorem SRF.grow{K:PySem.W.Frag}{cls:String->Option Addr}{F:Nat->List Addr}(I:SRF K cls Av G S₀ ρ σ S H F)(w:bj S H S' H'):SRF K cls Av G S₀ ρ σ S' H' F:=
 I.change (I.gh.trans w.g) w.s w.sh (fun b h=>by
  rcases w.new b h with z|z
  . exact I.new b z
  . exact .inr (I.gh.free z)) (fun i a _ o h=>w.g _ _ h) (fun b o _ h=>w.g _ _ h) fun i a ha=>by
    obtain⟨⟨o,h1,_⟩,_,h3⟩:=I.live i a ha
    cases q:S' a with
    |none=>rfl
    | some o=>
      rcases w.new a (by rw[q];simp)with z|z
      . exact absurd h3 z
      . rw[h1]at z;cases z
theorem SR.grow{K:PySem.W.Frag}{cls:String->Option Addr}(I:SR K cls Av G S₀ ρ σ S H)(w:bj S H S' H'):SR K cls Av G S₀ ρ σ S' H':=let ⟨F,J⟩:=I;⟨F,J.grow w⟩
theorem SR.Nl{K:PySem.W.Frag}{cls:String->Option Addr}{ρ:ag}{σ:St}(I:SR K cls Av G S₀ ρ σ S H)(w:bj S H S' H')(h:nR K H S' H' (.fr xs) v):SR K cls Av G S₀ (ρ.set i (some (.ow xs))) (σ.set i (some v)) S' H':=by
 obtain⟨F,J⟩:=I;obtain⟨p,vs,rfl,hB,hS,hH,hr⟩:=h;have hG:=J.gh.free hB
 refine⟨_,(J.grow w).put (fp:=[p]) (fun t e=>by cases e;exact⟨_,rfl,p,vs,rfl,rfl,hG,hS,hH,hr⟩) (fun a ha=>?_) fun j a _ ha hz=>?_⟩
 . have z:a=p:=by simpa using ha
   subst z
   exact⟨⟨_,hH,rfl⟩,hG,hS⟩
 . have z:a=p:=by simpa using ha
   subst z;obtain⟨⟨o,h1,_⟩,_⟩:=J.live j a hz;rw[hB]at h1;cases h1
theorem bj.heap(h:aK S H)(hp:H p=none):bj S H S (upd H p o):=⟨aK.refl _,aK.new hp,h.trans (aK.new hp),fun _ z=>.inl z⟩
theorem bj.both(h:aK S H)(hp:H p=none):bj S H (upd S p o) (upd H p o):=by
 have hS:=h.free hp
 refine⟨aK.new hS,aK.new hp,fun b u z=>?_,fun b z=>?_⟩
 . by_cases e:b=p
   . subst e;rw[bL]at z ⊢;exact z
   . rw[bP e]at z ⊢;exact h b u z
 . by_cases e:b=p
   . subst e;exact .inr hp
   . rw[bP e]at z;exact .inl z
section
variable(K:PySem.W.Frag)(cls:String->Option Addr)(W:XW)
def mY(σ:St)(S H:Hp)(Q:VK):OE->Prop
 |.ok r=>∀ v S' H',bj S H S' H'->nR K H S' H' r v->Q v H'
 |.exc c fs=>∀ a C S' H',bj S H S' H'->qo K cls S' H' c fs a C->W (.ref C) (some a) σ H'
 |.bad=>False
def u1(σ:St)(S H:Hp)(Q:Bool->Hp->Prop):OT->Prop
 |.ok b=>∀ S' H',bj S H S' H'->Q b H'
 |.exc c fs=>∀ a C S' H',bj S H S' H'->qo K cls S' H' c fs a C->W (.ref C) (some a) σ H'
 |.bad=>False
def xZ(σ:St)(S H:Hp)(Q:List V->Hp->Prop):OA->Prop
 |.ok xs=>∀ vs S' H',bj S H S' H'->b0 K S' xs vs->Q vs H'
 |.exc c fs=>∀ a C S' H',bj S H S' H'->qo K cls S' H' c fs a C->W (.ref C) (some a) σ H'
 |.bad=>False
def jN(Av G S₀:Hp)(S:Hp)(D:Ends):OS->Prop
 |.nx ρ=>∀ σ' S' H',SR K cls Av G S₀ ρ σ' S' H'->aK S S'->D.nx σ' H'
 |.bk ρ=>∀ σ' S' H',SR K cls Av G S₀ ρ σ' S' H'->aK S S'->D.bk σ' H'
 |.ct ρ=>∀ σ' S' H',SR K cls Av G S₀ ρ σ' S' H'->aK S S'->D.ct σ' H'
 |.rt ρ r=>∀ v σ' S' H',SR K cls Av G S₀ ρ σ' S' H'->aK S S'->nR K G S' H' r v->D.rt v H'
 |.exc ρ c fs=>∀ a C σ' S' H',SR K cls Av G S₀ ρ σ' S' H'->aK S S'->qo K cls S' H' c fs a C->W (.ref C) (some a) σ' H'
 |.bad=>False
def JE(te:TE)(m:ag->OE):Prop:=∀ Av G S₀ ρ σ S H Q,SR K cls Av G S₀ ρ σ S H->mY K cls W σ S H Q (m ρ)->te σ H Q
def JT(te:TT)(m:ag->OT):Prop:=∀ Av G S₀ ρ σ S H Q,SR K cls Av G S₀ ρ σ S H->u1 K cls W σ S H Q (m ρ)->te σ H Q
def JA(te:TA)(m:ag->OA):Prop:=∀ Av G S₀ ρ σ S H Q,SR K cls Av G S₀ ρ σ S H->xZ K cls W σ S H Q (m ρ)->te σ H Q
def JS(ts:TS)(m:ag->OS):Prop:=∀ Av G S₀ ρ σ S H D,SR K cls Av G S₀ ρ σ S H->jN K cls W Av G S₀ S D (m ρ)->ts D σ H
end
section
variable{K:PySem.W.Frag}{cls:String->Option Addr}{W:XW}{Av G S₀ S S' H H' B B':Hp}{ρ:ag}{σ:St}{Q:VK}
theorem nR.back(h:nR K B' S H r v)(g:aK B B'):nR K B S H r v:=by
 cases r with
 |sh x=>exact h
 |fr xs=>obtain⟨p,vs,e,h1,h2⟩:=h;exact⟨p,vs,e,g.free h1,h2⟩
 |al xs=>exact h
theorem mY.back(w:bj S H S1 H1)(h:mY K cls W σ S H Q o):mY K cls W σ S1 H1 Q o:=by
 cases o with
 |ok r=>exact fun v S' H' w' r=>h v S' H' (w.trans w') (r.back w.g)
 |exc c fs=>exact fun a C S' H' w' r=>h a C S' H' (w.trans w') r
 |bad=>exact h
theorem u1.back{Q:Bool->Hp->Prop}(w:bj S H S1 H1)(h:u1 K cls W σ S H Q o):u1 K cls W σ S1 H1 Q o:=by
 cases o with
 |ok r=>exact fun S' H' w'=>h S' H' (w.trans w')
 |exc c fs=>exact fun a C S' H' w' r=>h a C S' H' (w.trans w') r
 |bad=>exact h
theorem xZ.back{Q:List V->Hp->Prop}(w:bj S H S1 H1)(h:xZ K cls W σ S H Q o):xZ K cls W σ S1 H1 Q o:=by
 cases o with
 |ok r=>exact fun v S' H' w' r=>h v S' H' (w.trans w') r
 |exc c fs=>exact fun a C S' H' w' r=>h a C S' H' (w.trans w') r
 |bad=>exact h
theorem jN.back(s:aK S S1)(h:jN K cls W Av G S₀ S D o):jN K cls W Av G S₀ S1 D o:=by
 cases o with
 |nx ρ=>exact fun σ' S' H' I s'=>h σ' S' H' I (s.trans s')
 |bk ρ=>exact fun σ' S' H' I s'=>h σ' S' H' I (s.trans s')
 |ct ρ=>exact fun σ' S' H' I s'=>h σ' S' H' I (s.trans s')
 |rt ρ r=>exact fun v σ' S' H' I s'=>h v σ' S' H' I (s.trans s')
 |exc ρ c fs=>exact fun a C σ' S' H' I s'=>h a C σ' S' H' I (s.trans s')
 |bad=>exact h
theorem JE.go{m:ag->OE}{f:RV->OE}(h:JE K cls W te m)(I:SR K cls Av G S₀ ρ σ S H)(p:mY K cls W σ S H Q ((m ρ).bind f))
  (k:∀ r v S1 H1,SR K cls Av G S₀ ρ σ S1 H1->bj S H S1 H1->nR K H S1 H1 r v->mY K cls W σ S1 H1 Q (f r)->Q' v H1):te σ H Q':=by
 refine h Av G S₀ ρ σ S H Q' I ?_
 cases e:m ρ with
 |ok r=>rw[e]at p;exact fun v S1 H1 w r1=>k r v S1 H1 (I.grow w) w r1 (p.back w)
 |exc c fs=>rw[e]at p;exact p
 |bad=>rw[e]at p;exact p
theorem JE.goT{m:ag->OE}{f:RV->OT}{Q:Bool->Hp->Prop}(h:JE K cls W te m)(I:SR K cls Av G S₀ ρ σ S H)(p:u1 K cls W σ S H Q ((m ρ).gF f))
  (k:∀ r v S1 H1,SR K cls Av G S₀ ρ σ S1 H1->bj S H S1 H1->nR K H S1 H1 r v->u1 K cls W σ S1 H1 Q (f r)->Q' v H1):te σ H Q':=by
 refine h Av G S₀ ρ σ S H Q' I ?_
 cases e:m ρ with
 |ok r=>rw[e]at p;exact fun v S1 H1 w r1=>k r v S1 H1 (I.grow w) w r1 (p.back w)
 |exc c fs=>rw[e]at p;exact p
 |bad=>rw[e]at p;exact p
theorem JE.goS{m:ag->OE}{f:RV->OS}(h:JE K cls W te m)(I:SR K cls Av G S₀ ρ σ S H)(p:jN K cls W Av G S₀ S D ((m ρ).cy ρ f))
  (k:∀ r v S1 H1,SR K cls Av G S₀ ρ σ S1 H1->bj S H S1 H1->nR K H S1 H1 r v->jN K cls W Av G S₀ S1 D (f r)->Q' v H1):te σ H Q':=by
 refine h Av G S₀ ρ σ S H Q' I ?_
 cases e:m ρ with
 |ok r=>rw[e]at p;exact fun v S1 H1 w r1=>k r v S1 H1 (I.grow w) w r1 (p.back w.s)
 |exc c fs=>rw[e]at p;exact fun a C S' H' w x=>p a C σ S' H' (I.grow w) w.s x
 |bad=>rw[e]at p;exact p
theorem JT.go{m:ag->OT}{f:Bool->OE}{Q':Bool->Hp->Prop}(h:JT K cls W te m)(I:SR K cls Av G S₀ ρ σ S H)(p:mY K cls W σ S H Q ((m ρ).bind f))
  (k:∀ b S1 H1,SR K cls Av G S₀ ρ σ S1 H1->bj S H S1 H1->mY K cls W σ S1 H1 Q (f b)->Q' b H1):te σ H Q':=by
 refine h Av G S₀ ρ σ S H Q' I ?_
 cases e:m ρ with
 |ok r=>rw[e]at p;exact fun S1 H1 w=>k r S1 H1 (I.grow w) w (p.back w)
 |exc c fs=>rw[e]at p;exact p
 |bad=>rw[e]at p;exact p
theorem JT.goT{m:ag->OT}{f:Bool->OT}{Q Q':Bool->Hp->Prop}(h:JT K cls W te m)(I:SR K cls Av G S₀ ρ σ S H)(p:u1 K cls W σ S H Q ((m ρ).gF f))
  (k:∀ b S1 H1,SR K cls Av G S₀ ρ σ S1 H1->bj S H S1 H1->u1 K cls W σ S1 H1 Q (f b)->Q' b H1):te σ H Q':=by
 refine h Av G S₀ ρ σ S H Q' I ?_
 cases e:m ρ with
 |ok r=>rw[e]at p;exact fun S1 H1 w=>k r S1 H1 (I.grow w) w (p.back w)
 |exc c fs=>rw[e]at p;exact p
 |bad=>rw[e]at p;exact p
theorem JT.goS{m:ag->OT}{f:Bool->OS}{Q':Bool->Hp->Prop}(h:JT K cls W te m)(I:SR K cls Av G S₀ ρ σ S H)(p:jN K cls W Av G S₀ S D ((m ρ).cy ρ f))
  (k:∀ b S1 H1,SR K cls Av G S₀ ρ σ S1 H1->bj S H S1 H1->jN K cls W Av G S₀ S1 D (f b)->Q' b H1):te σ H Q':=by
 refine h Av G S₀ ρ σ S H Q' I ?_
 cases e:m ρ with
 |ok r=>rw[e]at p;exact fun S1 H1 w=>k r S1 H1 (I.grow w) w (p.back w.s)
 |exc c fs=>rw[e]at p;exact fun a C S' H' w x=>p a C σ S' H' (I.grow w) w.s x
 |bad=>rw[e]at p;exact p
theorem JA.go{m:ag->OA}{f:List PV->OE}{Q':List V->Hp->Prop}(h:JA K cls W te m)(I:SR K cls Av G S₀ ρ σ S H)(p:mY K cls W σ S H Q ((m ρ).bind f))
  (k:∀ xs vs S1 H1,SR K cls Av G S₀ ρ σ S1 H1->bj S H S1 H1->b0 K S1 xs vs->mY K cls W σ S1 H1 Q (f xs)->Q' vs H1):te σ H Q':=by
 refine h Av G S₀ ρ σ S H Q' I ?_
 cases e:m ρ with
 |ok r=>rw[e]at p;exact fun v S1 H1 w r1=>k r v S1 H1 (I.grow w) w r1 (p.back w)
 |exc c fs=>rw[e]at p;exact p
 |bad=>rw[e]at p;exact p
theorem JA.goA{m:ag->OA}{f:List PV->OA}{Q Q':List V->Hp->Prop}(h:JA K cls W te m)(I:SR K cls Av G S₀ ρ σ S H)(p:xZ K cls W σ S H Q ((m ρ).gb f))
  (k:∀ xs vs S1 H1,SR K cls Av G S₀ ρ σ S1 H1->bj S H S1 H1->b0 K S1 xs vs->xZ K cls W σ S1 H1 Q (f xs)->Q' vs H1):te σ H Q':=by
 refine h Av G S₀ ρ σ S H Q' I ?_
 cases e:m ρ with
 |ok r=>rw[e]at p;exact fun v S1 H1 w r1=>k r v S1 H1 (I.grow w) w r1 (p.back w)
 |exc c fs=>rw[e]at p;exact p
 |bad=>rw[e]at p;exact p
theorem ae:JE K cls W (AX i) (ao i):=by
 intro Av G S₀ ρ σ S H Q I p;unfold ao at p;split at p
 . rename_i x e;obtain⟨v,e1,r⟩:=I.good i _ e
   exact⟨v,e1,p v S H (bj.refl I.sh) r⟩
 . rename_i xs e;obtain⟨v,e1,a,vs,e2,_,_,h3,h4⟩:=I.good i _ e
   exact⟨v,e1,p v S H (bj.refl I.sh) ⟨a,vs,e2,SqL.new h3,h4⟩⟩
 . exact p.elim
theorem zf(h:∀ S,Rep K S x v):JE K cls W (tC v) (mC x):=fun Av G S₀ ρ σ S H Q I p=>p v S H (bj.refl I.sh) (h S)
theorem ah:JE K cls W (tC (.int n)) (mC (.int n)):=zf fun _=>by unfold Rep;rfl
theorem uW:JE K cls W (tC (.bl n)) (mC (.bl n)):=zf fun _=>by unfold Rep;rfl
theorem dh:JE K cls W (tC .non) (mC .non):=zf fun _=>by unfold Rep;rfl
theorem aL:JE K cls W (tC (.str n)) (mC (.str n)):=zf fun _=>by unfold Rep;rfl
theorem oS{ns:List Int}(h:∀ S,SqT K S p (ns.map V.int)):JE K cls W (tC (.ref p)) (mC (.tup (ns.map .int))):=zf fun S=>by unfold Rep;exact⟨p,_,rfl,h S,b0.ints⟩
def JR(K:PySem.W.Frag)(r:R2)(g:PV->PV->Option RV):Prop:=∀ S H x y v u rr Q,aK S H->RdV K S H x v->RdV K S H y u->g x y=some rr ->
 (∀ z S' H',bj S H S' H'->nR K H S' H' rr z->Q z H')->r v u H Q
theorem aq{g:PV->PV->Option RV}{ma mb:ag->OE}(hr:JR K r g)(ha:JE K cls W ta ma)(hb:JE K cls W tb mb):JE K cls W (tOp r ta tb) (mOp g ma mb):=by
 intro Av G S₀ ρ σ S H Q I p
 refine ha.go I p fun a v S1 H1 I1 w1 r1 p1=>hb.go I1 p1 fun b u S2 H2 I2 w2 r2 p2=>?_
 cases e:g a.pv b.pv with
 |none=>rw[e]at p2;exact p2.elim
 | some rr=>
   rw[e]at p2;exact hr S2 H2 a.pv b.pv v u rr Q I2.sh ((r1.rd I1.sh).mono w2.s w2.g) (r2.rd I2.sh) e p2
def sv:PV->V
 |.non=>.non
 |.bl b=>.bl b
 |.int i=>.int i
 |.str s=>.str s
 |_=>.non
theorem dg(h:RdV K S H (.int i) v):v=.int i:=by unfold RdV Rep at h;exact h
theorem pq(h:RdV K S H (.bl i) v):v=.bl i:=by unfold RdV Rep at h;exact h
theorem j3(h:RdV K S H (.str i) v):v=.str i:=by unfold RdV Rep at h;exact h
theorem jA(h:RdV K S H .non v):v=.non:=by unfold RdV Rep at h;exact h
theorem iJ(h:RdV K S H (.lst xs) v):∃ p vs,v=.ref p /\ SqL K H p vs /\ b0 K S xs vs:=h
theorem m9(h:RdV K S H (.tup xs) v):∃ p vs,v=.ref p /\ SqT K S p vs /\ b0 K S xs vs:=by unfold RdV Rep at h;exact h
theorem Er{C:Int->Int->Prop}{c:Int->Int->Bool}{f:Int->Int->PV}{fv:Int->Int->V}(hc:∀ i j,c i j=true->C i j)(hf:∀ S i j,Rep K S (f i j) (fv i j)):JR K (rI C fv) (gI c f):=by
 intro S H x y v u rr Q I hx hy e k;unfold gI at e;split at e
 . rename_i i j;split at e
   . rename_i hcc;cases e
     exact⟨i,j,dg hx,dg hy,hc i j hcc,k _ S H (bj.refl I) (hf S i j)⟩
   . cases e
 . cases e
theorem uv{f:Int->Int->PV}{fv:Int->Int->V}(hf:∀ S i j,Rep K S (f i j) (fv i j)):JR K (rI0 fv) (gI (fun _ _=>true) f):=by
 intro S H x y v u rr Q I hx hy e k;unfold gI at e;split at e
 . rename_i i j;simp only[if_true]at e;cases e
   exact⟨i,j,dg hx,dg hy,k _ S H (bj.refl I) (hf S i j)⟩
 . cases e
theorem cb:JR K (rI0 fun i j=>.int (i+j)) dZ:=uv fun _ _ _=>by unfold Rep;rfl
theorem sA:JR K (rI0 fun i j=>.int (i - j)) xp:=uv fun _ _ _=>by unfold Rep;rfl
theorem uk:JR K (rI Ex fun i j=>.int (i*j)) AS:=Er (fun i j h=>by simpa [Ex,Bool.or_eq_true,Bool.and_eq_true,decide_eq_true_eq]using h) fun _ _ _=>by unfold Rep;rfl
theorem bU:JR K (rI JY fun i j=>.int (i/j)) dH:=Er (fun i j h=>by simpa [JY,Bool.and_eq_true,decide_eq_true_eq]using h) fun _ _ _=>by unfold Rep;rfl
theorem bW:JR K (rI (fun _ j=>0<j) fun i j=>.int (i%j)) cI:=Er (fun i j h=>by simpa using h) fun _ _ _=>by unfold Rep;rfl
theorem lu:JR K (rI0 fun i j=>.bl (decide (i<j))) gLt:=uv fun _ _ _=>by unfold Rep;rfl
theorem nT:JR K (rI0 fun i j=>.bl (decide (i<=j))) gLe:=uv fun _ _ _=>by unfold Rep;rfl
theorem Cc:JR K (rI0 fun i j=>.bl (decide (j<i))) gGt:=uv fun _ _ _=>by unfold Rep;rfl
theorem Cr:JR K (rI0 fun i j=>.bl (decide (j<=i))) gGe:=uv fun _ _ _=>by unfold Rep;rfl
theorem FW(hx:RdV K S H x v)(hy:RdV K S H y u)(e:eqS x y=some b):Mh v u=true /\ decide (v=u)=b:=by
 unfold eqS at e;split at e
 all_goals first
  |(have h1:=jA hx;subst h1;have h2:=jA hy;subst h2;cases e;exact⟨rfl,by simp⟩)
  |(have h1:=jA hx;subst h1;have h2:=dg hy;subst h2;cases e;exact⟨rfl,by simp⟩)
  |(have h1:=dg hx;subst h1;have h2:=jA hy;subst h2;cases e;exact⟨rfl,by simp⟩)
  |(have h1:=jA hx;subst h1;have h2:=pq hy;subst h2;cases e;exact⟨rfl,by simp⟩)
  |(have h1:=pq hx;subst h1;have h2:=jA hy;subst h2;cases e;exact⟨rfl,by simp⟩)
  |(have h1:=jA hx;subst h1;have h2:=j3 hy;subst h2;cases e;exact⟨rfl,by simp⟩)
  |(have h1:=j3 hx;subst h1;have h2:=jA hy;subst h2;cases e;exact⟨rfl,by simp⟩)
  |(have h1:=dg hx;subst h1;have h2:=dg hy;subst h2;cases e;exact⟨rfl,by simp⟩)
  |(have h1:=pq hx;subst h1;have h2:=pq hy;subst h2;cases e;exact⟨rfl,by simp⟩)
  |(have h1:=j3 hx;subst h1;have h2:=j3 hy;subst h2;cases e;exact⟨rfl,by simp⟩)
  |(have h1:=dg hx;subst h1;have h2:=j3 hy;subst h2;cases e;exact⟨rfl,by simp⟩)
  |(have h1:=j3 hx;subst h1;have h2:=dg hy;subst h2;cases e;exact⟨rfl,by simp⟩)
  |(have h1:=pq hx;subst h1;have h2:=j3 hy;subst h2;cases e;exact⟨rfl,by simp⟩)
  |(have h1:=j3 hx;subst h1;have h2:=pq hy;subst h2;cases e;exact⟨rfl,by simp⟩)
  |cases e
theorem bu:JR K rEq gEq:=by
 intro S H x y v u rr Q I hx hy e k;obtain⟨b,e1,e2⟩:=Option.map_eq_some_iff.mp e;obtain⟨h1,h2⟩:=FW hx hy e1
 refine⟨h1,k _ S H (bj.refl I) ?_⟩
 subst e2;show Rep K S _ _;unfold Rep;rw[h2]
theorem wC:JR K rNe gNe:=by
 intro S H x y v u rr Q I hx hy e k;obtain⟨b,e1,e2⟩:=Option.map_eq_some_iff.mp e;obtain⟨h1,h2⟩:=FW hx hy e1
 refine⟨h1,k _ S H (bj.refl I) ?_⟩
 subst e2;show Rep K S _ _;unfold Rep;rw[h2]
end
section
variable{K:PySem.W.Frag}{cls:String->Option Addr}{W:XW}{Av G S₀ S S' H H' B B':Hp}{ρ:ag}{σ:St}{Q:VK}
theorem nR.share(h:nR K H S1 H1 r v)(w:bj S H S1 H1)(e:mK r=some x):∃ S2,bj S H S2 H1 /\ aK S1 S2 /\ Rep K S2 x v:=by
 cases r with
 |sh y=>cases e;exact⟨S1,w,aK.refl _,h⟩
 |al xs=>cases e
 | fr xs=>
   cases e;obtain⟨p,vs,rfl,hB,hS,hH,hr⟩:=h
   refine⟨upd S1 p (.lst vs),⟨w.s.trans (aK.new hS),w.g,fun b u z=>?_,fun b z=>?_⟩,aK.new hS,?_⟩
   . by_cases e:b=p
     . subst e;rw[bL]at z;cases z;exact hH
     . rw[bP e]at z;exact w.sh b u z
   . by_cases e:b=p
     . subst e;exact .inr hB
     . rw[bP e]at z;exact w.new b z
   . unfold Rep
     exact⟨p,vs,rfl,SqL.new bL,hr.mono (aK.new hS)⟩
theorem ax:JA K cls W mG aJ:=fun Av G S₀ ρ σ S H Q I p=>p [] S H (bj.refl I.sh) .nil
theorem af{me:ag->OE}{mr:ag->OA}(he:JE K cls W te me)(ht:JA K cls W t mr):JA K cls W (jx te t) (ak me mr):=by
 intro Av G S₀ ρ σ S H Q I p;refine he Av G S₀ ρ σ S H _ I ?_;unfold ak at p
 cases e:me ρ with
 |exc c fs=>rw[e]at p;exact p
 |bad=>rw[e]at p;exact p
 | ok r=>
   rw[e]at p;intro v S1 H1 w1 r1;simp only[OE.gb]at p
   cases es:mK r with
   |none=>rw[es]at p;exact p.elim
   | some x=>
     rw[es]at p;obtain⟨S2,w2,s2,rx⟩:=r1.share w1 es
     refine ht.goA (I.grow w2) (p.back w2) fun xs vs S3 H3 I3 w3 r3 p3=>?_
     exact p3 (v ::vs) S3 H3 (bj.refl I3.sh) (.cons (Rep.mono w3.s rx) r3)
theorem GJ:lim=sizeLine:=by decide
theorem aV{ma:ag->OA}(h:JA K cls W t ma):JE K cls W (HQ t) (b5 ma):=by
 intro Av G S₀ ρ σ S H Q I p
 refine h.go I p fun xs vs S1 H1 I1 w1 r1 p1=>?_
 split at p1
 . rename_i hl
   refine⟨by rw[r1.length];exact hl,fun q hq=>p1 (.ref q) S1 _ (bj.heap I1.sh hq) ⟨q,vs,rfl,hq,I1.sh.free hq,bL,r1⟩⟩
 . exact p1.elim
theorem cn{ma:ag->OA}(h:JA K cls W t ma):JE K cls W (LY t) (fh ma):=by
 intro Av G S₀ ρ σ S H Q I p
 refine h.go I p fun xs vs S1 H1 I1 w1 r1 p1=>?_
 split at p1
 . rename_i hl
   refine⟨by rw[r1.length];exact hl,fun q hq=>p1 (.ref q) _ _ (bj.both I1.sh hq) ?_⟩
   show Rep K _ _ _;unfold Rep
   exact⟨q,vs,rfl,SqT.new bL,r1.mono (bj.both (o:=.tup vs) I1.sh hq).s⟩
 . exact p1.elim
def ME(K:PySem.W.Frag)(cls:String->Option Addr)(S H:Hp)(Q:VK)(E:XK):OE->Prop
 |.ok r=>∀ v S' H',bj S H S' H'->nR K H S' H' r v->Q v H'
 |.exc c fs=>∀ a C S' H',bj S H S' H'->qo K cls S' H' c fs a C->E (.ref C) (some a) H'
 |.bad=>False
def spP(K:PySem.W.Frag)(cls:String->Option Addr)(f:List PV->OE):Sp:=fun vs H Q E=>∃ S xs,aK S H /\ b0 K S xs vs /\ ME K cls S H Q E (f xs)
theorem aO{ma:ag->OA}{f:List PV->OE}(h:JA K cls W t ma):JE K cls W (sf (spP K cls f) [] W t) (bp f ma):=by
 intro Av G S₀ ρ σ S H Q I p
 refine h.go I p fun xs vs S1 H1 I1 w1 r1 p1=>?_
 show spP K cls f (vs++[]) H1 Q _;rw[List.append_nil]
 refine⟨S1,xs,I1.sh,r1,?_⟩
 cases e:f xs with
 |ok r=>rw[e]at p1;exact p1
 |exc c fs=>rw[e]at p1;exact p1
 |bad=>rw[e]at p1;exact p1
def JU(K:PySem.W.Frag)(r:List V->Hp->VK->Prop)(g:PV->Option RV):Prop:=∀ S H x v rr Q,aK S H->RdV K S H x v->g x=some rr ->
 (∀ z S' H',bj S H S' H'->nR K H S' H' rr z->Q z H')->r [v] H Q
theorem dM{r:List V->Hp->VK->Prop}{g:PV->Option RV}{ma:ag->OE}(hr:JU K r g)(ha:JE K cls W ta ma):JE K cls W (tCB r (jx ta mG)) (mUn g ma):=by
 intro Av G S₀ ρ σ S H Q I p
 refine ha.go I p fun a v S1 H1 I1 w1 r1 p1=>?_
 show r [v] H1 Q
 cases e:g a.pv with
 |none=>rw[e]at p1;exact p1.elim
 |some rr=>rw[e]at p1;exact hr S1 H1 a.pv v rr Q I1.sh (r1.rd I1.sh) e p1
theorem n8{r:V->Hp->VK->Prop}{g:PV->Option RV}{ma:ag->OE}(hr:JU K (fun vs H Q=>∃ v,vs=[v] /\ r v H Q) g)(ha:JE K cls W ta ma):JE K cls W (tUn r ta) (mUn g ma):=by
 intro Av G S₀ ρ σ S H Q I p
 refine ha.go I p fun a v S1 H1 I1 w1 r1 p1=>?_
 cases e:g a.pv with
 |none=>rw[e]at p1;exact p1.elim
 | some rr=>
   rw[e]at p1;obtain⟨u,e1,h⟩:=hr S1 H1 a.pv v rr Q I1.sh (r1.rd I1.sh) e p1;cases e1;exact h
theorem j1:JU K (fun vs H Q=>∃ v,vs=[v] /\ rU (fun i=>.int (-i)) v H Q) hZ:=by
 intro S H x v rr Q I hx e k
 cases x with
 |int i=>cases e;exact⟨v,rfl,i,dg hx,k _ S H (bj.refl I) (by show Rep K S _ _;unfold Rep;rfl)⟩
 |_=>cases e
theorem iI:JU K (fun xs H Q=>∃ p ys,xs=[.ref p] /\ (SqL K H p ys \/ SqT K H p ys) /\ Q (.int ys.length) H) mM:=by
 intro S H x v rr Q I hx e k
 cases x with
 | lst xs=>
   cases e;obtain⟨p,vs,rfl,hq,r⟩:=iJ hx
   exact⟨p,vs,rfl,.inl hq,k _ S H (bj.refl I) (by show Rep K S _ _;unfold Rep;rw[r.length])⟩
 | tup xs=>
   cases e;obtain⟨p,vs,rfl,hq,r⟩:=m9 hx
   exact⟨p,vs,rfl,.inr (aK.tup I hq),k _ S H (bj.refl I) (by show Rep K S _ _;unfold Rep;rw[r.length])⟩
 |_=>cases e
theorem Ci:JU K (fun xs H Q=>(∃ i,xs=[.int i] /\ Q (.int i) H) \/ ∃ k,xs=[.bl k] /\ Q (.int (if k then 1 else 0)) H) zR:=by
 intro S H x v rr Q I hx e k
 cases x with
 |int i=>cases e;exact .inl ⟨i,by rw[dg hx],k _ S H (bj.refl I) (by show Rep K S _ _;unfold Rep;rfl)⟩
 |bl b=>cases e;exact .inr ⟨b,by rw[pq hx],k _ S H (bj.refl I) (by show Rep K S _ _;unfold Rep;rfl)⟩
 |_=>cases e
theorem Bx:JU K (fun xs H Q=>∃ p ys,xs=[.ref p] /\ (SqL K H p ys \/ SqT K H p ys) /\ ∀ l,H l=none->Q (.ref l) (upd H l (.lst ys))) tV:=by
 intro S H x v rr Q I hx e k
 cases x with
 | lst xs=>
   cases e;obtain⟨p,vs,rfl,hq,r⟩:=iJ hx
   exact⟨p,vs,rfl,.inl hq,fun l hl=>k _ S _ (bj.heap I hl) ⟨l,vs,rfl,hl,I.free hl,bL,r⟩⟩
 | tup xs=>
   cases e;obtain⟨p,vs,rfl,hq,r⟩:=m9 hx
   exact⟨p,vs,rfl,.inr (aK.tup I hq),fun l hl=>k _ S _ (bj.heap I hl) ⟨l,vs,rfl,hl,I.free hl,bL,r⟩⟩
 |_=>cases e
theorem LU{α:Type}(xs:List α)(i:Int):atP xs i=L2.atI xs i:=rfl
theorem b0.atI(h:b0 K S xs vs)(e:atP xs i=some x):∃ v,L2.atI vs i=some v /\ Rep K S x v:=by
 rw[LU]at e
 unfold L2.atI at e ⊢
 rw[h.length]
 cases q:ixN xs.length i with
 |none=>rw[q]at e;cases e
 |some j=>rw[q]at e;exact h.get e
theorem fL:JR K (Iv K) gN:=by
 intro S H x y v u rr Q I hx hy e k;unfold gN at e;split at e
 . rename_i xs i;obtain⟨z,e1,e2⟩:=Option.map_eq_some_iff.mp e;obtain⟨p,vs,rfl,hq,r⟩:=iJ hx;obtain⟨w,e3,rw'⟩:=r.atI e1;subst e2
   exact⟨p,vs,i,w,rfl,dg hy,hq,e3,k _ S H (bj.refl I) rw'⟩
 . cases e
theorem ez:JR K (MU K) eT:=by
 intro S H x y v u rr Q I hx hy e k;unfold eT at e;split at e
 . rename_i xs i;obtain⟨z,e1,e2⟩:=Option.map_eq_some_iff.mp e;obtain⟨p,vs,rfl,hq,r⟩:=m9 hx;obtain⟨w,e3,rw'⟩:=r.atI e1;subst e2
   exact⟨p,vs,i,w,rfl,dg hy,aK.tup I hq,e3,k _ S H (bj.refl I) rw'⟩
 . cases e
end
section
variable{K:PySem.W.Frag}{cls:String->Option Addr}{W:XW}{Av G S₀ S S' H H' B B':Hp}{ρ:ag}{σ:St}{Q:VK}
theorem ji:JR K (Jd K) nB:=by
 intro S H x y v u rr Q I hx hy e k;unfold nB at e;split at e
 . rename_i xs ys;split at e
   . rename_i hl;cases e;obtain⟨p,vs,rfl,hq,r⟩:=iJ hx;obtain⟨p2,vs2,rfl,hq2,r2⟩:=iJ hy
     exact⟨p,p2,vs,vs2,rfl,rfl,hq,hq2,by rw[r.length,r2.length];exact hl,fun l hn=>k _ S _ (bj.heap I hn) ⟨l,_,rfl,hn,I.free hn,bL,r.append r2⟩⟩
   . cases e
 . cases e
theorem BK{xs:List PV}{vs:List V}{bs:List Bool}(h:sW xs=some bs)(r:b0 K S xs vs):vs=bs.map V.bl:=by
 induction xs generalizing bs vs with
 |nil=>cases h;exact r.nil_inv
 | cons x xs ih=>
   cases x with
   | bl i=>
     obtain⟨ms,e1,e2⟩:=Option.map_eq_some_iff.mp h;subst e2;obtain⟨v,t,rfl,h1,h2⟩:=r.cons_inv;unfold Rep at h1;rw[ih e1 h2,h1];rfl
   |_=>cases h
theorem Kt{A:Around}(hh:A.handled=none):JU K (fun xs H Q=>∃(p:Addr) (bs:List Bool),xs=[.ref p] /\ SqL K H p (bs.map V.bl) /\ A.handled=none /\ Q (.bl (bs.all id)) H) Hf:=by
 intro S H x v rr Q I hx e k
 cases x with
 | lst xs=>
   obtain⟨bs,e1,e2⟩:=Option.map_eq_some_iff.mp e;obtain⟨p,vs,rfl,hq,r⟩:=iJ hx;rw[BK e1 r]at hq;subst e2
   exact⟨p,bs,rfl,hq,hh,k _ S H (bj.refl I) (by show Rep K S _ _;unfold Rep;rfl)⟩
 |_=>cases e
theorem Mb{T:String}{x:PV}{v:V}{b:Bool}(s:aK S H)(hx:RdV K S H x v)(e:isP T x=some b):IsV K T v H b:=by
 cases x with
 | int i=>
   have:=dg hx;subst this;simp only[isP]at e;split at e
   . cases e;exact .inl ⟨by assumption,rfl⟩
   . split at e
     . rename_i h;cases e;rcases h with h|h|h|h
       . exact .inr (.inl ⟨h,rfl⟩)
       . exact .inr (.inr (.inl ⟨h,rfl⟩))
       . exact .inr (.inr (.inr (.inl ⟨h,rfl⟩)))
       . exact .inr (.inr (.inr (.inr ⟨h,rfl⟩)))
     . cases e
 | bl i=>
   have:=pq hx;subst this;simp only[isP]at e;split at e
   . rename_i h;cases e;rcases h with h|h
     . exact .inl ⟨h,rfl⟩
     . exact .inr (.inl ⟨h,rfl⟩)
   . split at e
     . rename_i h;cases e;rcases h with h|h|h
       . exact .inr (.inr (.inl ⟨h,rfl⟩))
       . exact .inr (.inr (.inr (.inl ⟨h,rfl⟩)))
       . exact .inr (.inr (.inr (.inr ⟨h,rfl⟩)))
     . cases e
 | non=>
   have:=jA hx;subst this;simp only[isP]at e;split at e
   . rename_i h;cases e;rcases h with h|h|h|h|h
     . exact .inl ⟨h,rfl⟩
     . exact .inr (.inl ⟨h,rfl⟩)
     . exact .inr (.inr (.inl ⟨h,rfl⟩))
     . exact .inr (.inr (.inr (.inl ⟨h,rfl⟩)))
     . exact .inr (.inr (.inr (.inr ⟨h,rfl⟩)))
   . cases e
 | str i=>
   have:=j3 hx;subst this;simp only[isP]at e;split at e
   . cases e;exact .inr (.inr (.inr (.inr ⟨by assumption,rfl⟩)))
   . split at e
     . rename_i h;cases e;rcases h with h|h|h|h
       . exact .inl ⟨h,rfl⟩
       . exact .inr (.inl ⟨h,rfl⟩)
       . exact .inr (.inr (.inl ⟨h,rfl⟩))
       . exact .inr (.inr (.inr (.inl ⟨h,rfl⟩)))
     . cases e
 | lst xs=>
   obtain⟨p,vs,rfl,hq,r⟩:=iJ hx;refine .inl ⟨⟨vs,hq⟩,?_⟩;simp only[isP]at e;split at e
   . cases e;exact .inr (.inr (.inl ⟨by assumption,rfl⟩))
   . split at e
     . rename_i h;cases e;rcases h with h|h|h|h
       . exact .inl ⟨h,rfl⟩
       . exact .inr (.inl ⟨h,rfl⟩)
       . exact .inr (.inr (.inr (.inl ⟨h,rfl⟩)))
       . exact .inr (.inr (.inr (.inr ⟨h,rfl⟩)))
     . cases e
 | tup xs=>
   obtain⟨p,vs,rfl,hq,r⟩:=m9 hx;refine .inr ⟨⟨vs,aK.tup s hq⟩,?_⟩;simp only[isP]at e;split at e
   . cases e;exact .inr (.inr (.inr (.inl ⟨by assumption,rfl⟩)))
   . split at e
     . rename_i h;cases e;rcases h with h|h|h|h
       . exact .inl ⟨h,rfl⟩
       . exact .inr (.inl ⟨h,rfl⟩)
       . exact .inr (.inr (.inl ⟨h,rfl⟩))
       . exact .inr (.inr (.inr (.inr ⟨h,rfl⟩)))
     . cases e
theorem um{T:String}{ta:TE}{ma:ag->OE}(ha:JE K cls W ta ma):
  JE K cls W (tCB (fun xs H Q=>∃ x T b,xs=[x,.ty T] /\ IsV K T x H b /\ Q (.bl b) H) (jx ta (jx (tC (.ty T)) mG))) (mIs T ma):=by
 intro Av G S₀ ρ σ S H Q I p
 refine ha.go I p fun a v S1 H1 I1 w1 r1 p1=>?_
 show ∃ x T' b,[v,V.ty T]=[x,V.ty T'] /\ _
 dsimp only at p1
 cases e:isP T a.pv with
 |none=>rw[e]at p1;exact p1.elim
 | some b=>
   rw[e]at p1
   exact⟨v,T,b,rfl,Mb I1.sh (r1.rd I1.sh) e,p1 _ S1 H1 (bj.refl I1.sh) (by show Rep K S1 _ _;unfold Rep;rfl)⟩
end
section
variable{K:PySem.W.Frag}{cls:String->Option Addr}{W:XW}{Av G S₀ S S' H H' B B':Hp}{ρ:ag}{σ:St}{Q:VK}
theorem tU{xs:List PV}{vs:List V}(h:b0 K S xs vs):vs.isEmpty=xs.isEmpty:=by
 cases xs with
 |nil=>rw[h.nil_inv];rfl
 |cons x xs=>obtain⟨v,r,rfl,_⟩:=h.cons_inv;rfl
theorem CO(s:aK S H)(hx:RdV K S H x v)(e:vb x=some b):BW K v H b:=by
 cases x with
 |non=>have:=jA hx;subst this;cases e;rfl
 |bl c=>have:=pq hx;subst this;cases e;rfl
 |int i=>have:=dg hx;subst this;cases e;rfl
 |str z=>cases e
 | lst xs=>
   obtain⟨p,vs,rfl,hq,r⟩:=iJ hx;cases e;exact .inl ⟨vs,hq,by rw[tU r]⟩
 | tup xs=>
   obtain⟨p,vs,rfl,hq,r⟩:=m9 hx;cases e;exact .inr (.inl ⟨vs,aK.tup s hq,by rw[tU r]⟩)
theorem cD{ma:ag->OE}(ha:JE K cls W ta ma):JT K cls W (fun σ H Q=>ta σ H fun x H'=>∃ k,BW K x H' k /\ Q k H') (cU ma):=by
 intro Av G S₀ ρ σ S H Q I p
 refine ha.goT I p fun r v S1 H1 I1 w1 r1 p1=>?_
 cases e:vb r.pv with
 |none=>rw[e]at p1;exact p1.elim
 |some b=>rw[e]at p1;exact⟨b,CO I1.sh (r1.rd I1.sh) e,p1 S1 H1 (bj.refl I1.sh)⟩
theorem yw{r:RV}(h:r.pv=.bl b)(r1:nR K H S1 H1 r v)(s:aK S1 H1):v=.bl b:=by
 have:=r1.rd s;rw[h]at this;exact pq this
theorem ay{ma:ag->OE}(ha:JE K cls W ta ma):JT K cls W (xS ta) (aB ma):=by
 intro Av G S₀ ρ σ S H Q I p
 refine ha.goT I p fun r v S1 H1 I1 w1 r1 p1=>?_
 cases e:r.pv with
 |bl b=>rw[e]at p1;exact⟨b,yw e r1 I1.sh,p1 S1 H1 (bj.refl I1.sh)⟩
 |_=>rw[e]at p1;exact p1.elim
theorem sO{ma:ag->OT}(ha:JT K cls W ta ma):JT K cls W (HH ta) (pE ma):=by
 intro Av G S₀ ρ σ S H Q I p
 exact ha.goT I p fun b S1 H1 I1 w1 p1=>p1 S1 H1 (bj.refl I1.sh)
theorem j8{ma mb:ag->OT}(ha:JT K cls W ta ma)(hb:JT K cls W tb mb):JT K cls W (KG ta tb) (fo ma mb):=by
 intro Av G S₀ ρ σ S H Q I p
 refine ha.goT I p fun b S1 H1 I1 w1 p1=>?_
 cases b with
 |true=>exact Aq (hb Av G S₀ ρ σ S1 H1 Q I1 p1)
 |false=>exact zF (p1 S1 H1 (bj.refl I1.sh))
theorem qc{ma mb:ag->OT}(ha:JT K cls W ta ma)(hb:JT K cls W tb mb):JT K cls W (tOr ta tb) (mL ma mb):=by
 intro Av G S₀ ρ σ S H Q I p
 refine ha.goT I p fun b S1 H1 I1 w1 p1=>?_
 cases b with
 |false=>exact zF (hb Av G S₀ ρ σ S1 H1 Q I1 p1)
 |true=>exact Aq (p1 S1 H1 (bj.refl I1.sh))
theorem o8:nR K B S H (.sh (.bl b)) (.bl b):=by show Rep K S _ _;unfold Rep;rfl
theorem EF{ma mb:ag->OE}(ha:JE K cls W ta ma)(hb:JE K cls W tb mb):JE K cls W (Gr ta tb) (xE ma mb):=by
 intro Av G S₀ ρ σ S H Q I p
 refine ha.go I p fun r v S1 H1 I1 w1 r1 p1=>?_
 cases e:r.pv with
 | bl b=>
   rw[e]at p1
   refine⟨b,yw e r1 I1.sh,?_⟩
   cases b with
   |true=>exact Aq (hb Av G S₀ ρ σ S1 H1 Q I1 p1)
   |false=>exact zF (p1 _ S1 H1 (bj.refl I1.sh) o8)
 |_=>rw[e]at p1;exact p1.elim
theorem Lk{ma:ag->OE}(ha:JE K cls W ta ma):JE K cls W (FF ta) (F3 ma):=by
 intro Av G S₀ ρ σ S H Q I p
 refine ha.go I p fun r v S1 H1 I1 w1 r1 p1=>?_
 cases e:r.pv with
 |bl b=>rw[e]at p1;exact⟨b,yw e r1 I1.sh,p1 _ S1 H1 (bj.refl I1.sh) o8⟩
 |_=>rw[e]at p1;exact p1.elim
theorem gZ{mc:ag->OT}{ma mb:ag->OE}(hc:JT K cls W tc mc)(ha:JE K cls W ta ma)(hb:JE K cls W tb mb):JE K cls W (tIf tc ta tb) (gG mc ma mb):=by
 intro Av G S₀ ρ σ S H Q I p
 refine hc.go I p fun b S1 H1 I1 w1 p1=>?_
 cases b with
 |true=>exact Aq (ha Av G S₀ ρ σ S1 H1 Q I1 p1)
 |false=>exact zF (hb Av G S₀ ρ σ S1 H1 Q I1 p1)
theorem kM{g g':PV->PV->Option RV}{ma mb mc:ag->OE}(hr:JR K r g)(hr':JR K r' g')(ha:JE K cls W ta ma)(hb:JE K cls W tb mb)(hc:JE K cls W tc mc):
  JE K cls W (wo r r' ta tb tc) (nj g g' ma mb mc):=by
 intro Av G S₀ ρ σ S H Q I p
 refine ha.go I p fun a v S1 H1 I1 w1 r1 p1=>hb.go I1 p1 fun b u S2 H2 I2 w2 r2 p2=>?_
 cases e:g a.pv b.pv with
 |none=>rw[e]at p2;exact p2.elim
 | some rr=>
   rw[e]at p2
   refine hr S2 H2 a.pv b.pv v u rr _ I2.sh ((r1.rd I1.sh).mono w2.s w2.g) (r2.rd I2.sh) e fun z S3 H3 w3 r3=>?_
   have I3:=I2.grow w3;simp only[oE,OE.bind]at p2
   cases e3:rr.pv with
   | bl k=>
     rw[e3]at p2;have hz:=yw e3 r3 I3.sh
     refine⟨k,hz,?_⟩
     cases k with
     |false=>exact zF (p2 _ S3 H3 w3 o8)
     | true=>
       refine Aq (hc.go I3 (p2.back w3) fun c y S4 H4 I4 w4 r4 p4=>?_)
       cases e4:g' b.pv c.pv with
       |none=>rw[e4]at p4;exact p4.elim
       |some r'=>rw[e4]at p4;exact hr' S4 H4 b.pv c.pv u y r' Q I4.sh (((r2.rd I2.sh).mono w3.s w3.g).mono w4.s w4.g) (r4.rd I4.sh) e4 p4
   |_=>rw[e3]at p2;exact p2.elim
theorem aw{ma mb:ag->OS}(ha:JS K cls W ta ma)(hb:JS K cls W tb mb):JS K cls W (KN ta tb) (aG ma mb):=by
 intro Av G S₀ ρ σ S H D I p;refine ha Av G S₀ ρ σ S H _ I ?_;unfold aG at p
 cases e:ma ρ with
 |nx ρ'=>rw[e]at p;exact fun σ' S' H' I' s'=>hb Av G S₀ ρ' σ' S' H' D I' (p.back s')
 |bk ρ'=>rw[e]at p;exact p
 |ct ρ'=>rw[e]at p;exact p
 |rt ρ' r=>rw[e]at p;exact p
 |exc ρ' c fs=>rw[e]at p;exact p
 |bad=>rw[e]at p;exact p
theorem aF:JS K cls W Gh aS:=fun Av G S₀ ρ σ S H D I p=>p σ S H I (aK.refl _)
theorem aW{me:ag->OE}(he:JE K cls W te me):JS K cls W (vm te (mm i)) (bq i me):=by
 intro Av G S₀ ρ σ S H D I p
 refine he.goS I p fun r v S1 H1 I1 w1 r1 p1=>?_
 show D.nx (σ.set i (some v)) H1
 cases r with
 |sh x=>exact p1 _ S1 H1 (I1.Ao r1) (aK.refl _)
 |fr xs=>exact p1 _ S1 H1 (I.Nl w1 r1) (aK.refl _)
 |al xs=>exact p1.elim
theorem aY{mc:ag->OT}{ma mb:ag->OS}(hc:JT K cls W tc mc)(ha:JS K cls W ta ma)(hb:JS K cls W tb mb):JS K cls W (IT tc ta tb) (bf mc ma mb):=by
 intro Av G S₀ ρ σ S H D I p
 refine hc.goS I p fun b S1 H1 I1 w1 p1=>?_
 cases b with
 |true=>exact Aq (ha Av G S₀ ρ σ S1 H1 D I1 p1)
 |false=>exact zF (hb Av G S₀ ρ σ S1 H1 D I1 p1)
theorem aC{me:ag->OE}(he:JE K cls W te me):JS K cls W (IE te) (bc me):=by
 intro Av G S₀ ρ σ S H D I p
 refine he.goS I p fun r v S1 H1 I1 w1 r1 p1=>?_
 cases r with
 |sh x=>exact p1 v σ S1 H1 I1 (aK.refl _) r1
 |fr xs=>exact p1 v σ S1 H1 I1 (aK.refl _) (r1.back I.gh)
 |al xs=>exact p1.elim
theorem lP:JS K cls W (IE (AX i)) (gz i):=by
 intro Av G S₀ ρ σ S H D I p;unfold gz at p;split at p
 . rename_i x e;obtain⟨v,e1,r⟩:=I.good i _ e
   exact⟨v,e1,p v σ S H I (aK.refl _) r⟩
 . rename_i xs e;obtain⟨v,e1,a,vs,e2,h1,h2,h3,h4⟩:=I.good i _ e
   exact⟨v,e1,p v σ S H I.drop (aK.refl _) ⟨a,vs,e2,h1,h2,h3,h4⟩⟩
 . exact p.elim
theorem Iw{me:ag->OE}(he:JE K cls W te me):JS K cls W (uX te) (ET me):=by
 intro Av G S₀ ρ σ S H D I p
 exact he.goS I p fun r v S1 H1 I1 w1 r1 p1=>p1 σ S1 H1 I1 (aK.refl _)
theorem lK{m:ag->OS}(h:JS K cls W ts m):JS K cls W ts (iz i m):=by
 intro Av G S₀ ρ σ S H D I p;unfold iz lD at p;split at p
 . rename_i xs e;obtain⟨S',s,J⟩:=I.MZ e;exact h Av G S₀ _ σ S' H D J (p.back s)
 . exact h Av G S₀ ρ σ S H D I p
theorem js{me:ag->OE}(he:JE K cls W te me):JS K cls W (uX (tBM K "list" yy (AX i) (jx te mG))) (eE i me):=by
 intro Av G S₀ ρ σ S H D I p;unfold eE at p;split at p
 . rename_i xs e;obtain⟨v,e1,a,vs,rfl,h1,h2,h3,h4⟩:=I.good i _ e
   refine⟨_,e1,.inl ⟨rfl,_,SqL.new h3⟩,?_⟩
   refine he Av G S₀ ρ σ S H _ I ?_
   cases em:me ρ with
   |exc c fs=>rw[em]at p;exact fun a C S' H' w x=>p a C σ S' H' (I.grow w) w.s x
   |bad=>rw[em]at p;exact p
   | ok r=>
     rw[em]at p;intro u S1 H1 w1 r1;simp only[OE.cy]at p
     cases es:mK r with
     |none=>rw[es]at p;exact p.elim
     | some y=>
       rw[es]at p
       dsimp only at p
       split at p
       . rename_i hl;obtain⟨S2,w2,s2,rx⟩:=r1.share w1 es;have I2:=I.grow w2
         refine⟨a,vs,u,rfl,rfl,w2.g _ _ h3,by rw[h4.length];exact hl,?_⟩
         exact p σ S2 _ (I2.mut e e1 ((h4.mono w2.s).append (.cons rx .nil))) w2.s
       . exact p.elim
 . exact p.elim
theorem xB{mb:ag->OS}{D:Ends}{N:St->Hp->Prop}(hb:JS K cls W tb mb)(I:SR K cls Av G S₀ ρ σ S H)(hx:Rep K S x v)
  (p:jN K cls W Av G S₀ S D (jG i mb (x ::xs) ρ)) (hN:∀ ρ' σ' S' H',SR K cls Av G S₀ ρ' σ' S' H'->aK S S'->jN K cls W Av G S₀ S' D (jG i mb xs ρ')->N σ' H'):
  mm i v σ H fun σ2 H2=>tb { D with nx:=N,ct:=N,bk:=D.nx } σ2 H2:=by
 refine hb Av G S₀ _ _ S H _ (I.Ao hx) ?_;rw[j4]at p
 cases e:mb (ρ.set i (some (.sh x)))with
 |nx ρ'=>rw[e]at p;exact fun σ' S' H' I' s'=>hN ρ' σ' S' H' I' s' (p.back s')
 |ct ρ'=>rw[e]at p;exact fun σ' S' H' I' s'=>hN ρ' σ' S' H' I' s' (p.back s')
 |bk ρ'=>rw[e]at p;exact p
 |rt ρ' r=>rw[e]at p;exact p
 |exc ρ' c fs=>rw[e]at p;exact p
 |bad=>rw[e]at p;exact p
theorem y8{ml:ag->OE}{mb:ag->OS}(hl:JE K cls W tl ml)(hb:JS K cls W tb mb):JS K cls W (F4 (Ah K tl) (mm i) tb) (u2 i ml mb):=by
 intro Av G S₀ ρ σ S H D I p;refine hl Av G S₀ ρ σ S H _ I ?_;unfold u2 at p
 cases em:ml ρ with
 |exc c fs=>rw[em]at p;exact fun a C S' H' w x=>p a C σ S' H' (I.grow w) w.s x
 |bad=>rw[em]at p;exact p
 | ok r=>
   rw[em]at p;intro v S1 H1 w1 r1;simp only[OE.cy]at p
   cases ei:BH r with
   |none=>rw[ei]at p;exact p.elim
   | some xs=>
     rw[ei]at p
     have es:mK r=some (.lst xs):=by
      cases r with
      |sh y=>cases y<;>cases ei<;>rfl
      |fr ys=>cases ei;rfl
      |al ys=>cases ei
     obtain⟨S2,w2,s2,rx⟩:=r1.share w1 es;have I2:=I.grow w2;unfold Rep at rx;obtain⟨a,vs,rfl,hq,hr⟩:=rx
     refine⟨a,rfl,⟨vs,aK.seq I2.sh hq⟩,?_⟩
     refine FO (xs:=vs) (fun k σ' H'=>∃ ρ' S',SR K cls Av G S₀ ρ' σ' S' H' /\ aK S2 S' /\ jN K cls W Av G S₀ S' D (jG i mb (xs.drop k) ρ'))
      ⟨ρ,S2,I2,aK.refl _,p.back w2.s⟩ ?_ ?_ ?_
     . rintro k σ' H' _ ⟨ρ',S',I',s',_⟩
       exact aK.seq (s'.trans I'.sh) hq
     . rintro k x σ' H' hx ⟨ρ',S',I',s',p'⟩
       obtain⟨y,hy,ry⟩:=hr.Nc hx
       have hd:xs.drop k=y ::xs.drop (k+1):=by
        have hk:k<xs.length:=(List.getElem?_eq_some_iff.mp hy).1
        rw[List.drop_eq_getElem_cons hk]
        congr 1
        have:=List.getElem?_eq_getElem hk;rw[hy]at this
        exact(Option.some.inj this).symm
       rw[hd]at p'
       exact xB hb I' (Rep.mono s' ry) p' fun ρ2 σ2 S3 H3 I3 s3 p3=>⟨ρ2,S3,I3,s'.trans s3,p3⟩
     . rintro σ' H' ⟨ρ',S',I',s',p'⟩
       rw[List.drop_of_length_le (by rw[hr.length];exact Nat.le_refl _)]at p';exact p' σ' S' H' I' (aK.refl _)
theorem zZ(h:k<n):(cT n).drop k=.int (k:Int) ::(cT n).drop (k+1):=by
 have hk:k<(cT n).length:=by unfold cT;simpa using h
 rw[List.drop_eq_getElem_cons hk]
 congr 1
 simp[cT]
theorem vF{me:ag->OE}{mb:ag->OS}(he:JE K cls W te me)(hb:JS K cls W tb mb):JS K cls W (F4 (Cv (jx te mG)) (mm i) tb) (tR i me mb):=by
 intro Av G S₀ ρ σ S H D I p
 refine he.goS I p fun r v S1 H1 I1 w1 r1 p1=>?_
 cases e:r.pv with
 | int j=>
   rw[e]at p1
   have hv:v=.int j:=by have:=r1.rd I1.sh;rw[e]at this;exact dg this
   subst hv
   dsimp only at p1
   split at p1
   . rename_i hj
     refine⟨j,rfl,hj.1,hj.2,?_⟩
     refine Dv (n:=j.toNat) (fun k σ' H'=>∃ ρ' S',SR K cls Av G S₀ ρ' σ' S' H' /\ aK S1 S' /\ jN K cls W Av G S₀ S' D (jG i mb ((cT j.toNat).drop k) ρ'))
      ⟨ρ,S1,I1,aK.refl _,p1⟩ ?_ ?_
     . rintro k σ' H' hk ⟨ρ',S',I',s',p'⟩
       rw[zZ hk]at p'
       refine xB hb I' ?_ p' fun ρ2 σ2 S3 H3 I3 s3 p3=>⟨ρ2,S3,I3,s'.trans s3,p3⟩
       unfold Rep;rw[Int.zero_add]
     . rintro σ' H' ⟨ρ',S',I',s',p'⟩
       rw[List.drop_of_length_le (by unfold cT;simp)]at p';exact p' σ' S' H' I' (aK.refl _)
   . exact p1.elim
 |_=>rw[e]at p1;exact p1.elim
theorem lY{mc:ag->OT}{mb:ag->OS}(hc:JT K cls W tc mc)(hb:JS K cls W tb mb):JS K cls W (Bu tc tb) (bX mc mb n):=by
 intro Av G S₀ ρ σ S H D I p
 refine⟨fun m σ' H'=>∃ ρ' S',SR K cls Av G S₀ ρ' σ' S' H' /\ aK S S' /\ jN K cls W Av G S₀ S' D (bX mc mb m ρ'),⟨n,ρ,S,I,aK.refl _,p⟩,?_⟩
 rintro m σ1 H1 ⟨ρ1,S1,I1,s1,p1⟩
 cases m with
 |zero=>exact p1.elim
 | succ m=>
   unfold bX at p1
   refine hc.goS I1 p1 fun b S2 H2 I2 w2 p2=>?_
   cases b with
   |false=>exact zF (p2 σ1 S2 H2 I2 (aK.refl _))
   | true=>
     refine Aq ⟨fun σ' H'=>∃ ρ' S',SR K cls Av G S₀ ρ' σ' S' H' /\ aK S S' /\ jN K cls W Av G S₀ S' D (bX mc mb m ρ'),fun σ' H' h=>⟨m,Nat.lt_succ_self m,h⟩,?_⟩;refine hb Av G S₀ ρ1 σ1 S2 H2 _ I2 ?_;simp only[if_true]at p2
     cases e:mb ρ1 with
     |nx ρ'=>rw[e]at p2;exact fun σ' S' H' I' s'=>⟨ρ',S',I',(s1.trans w2.s).trans s',p2.back s'⟩
     |ct ρ'=>rw[e]at p2;exact fun σ' S' H' I' s'=>⟨ρ',S',I',(s1.trans w2.s).trans s',p2.back s'⟩
     |bk ρ'=>rw[e]at p2;exact p2
     |rt r=>rw[e]at p2;exact p2
     |exc ρ' c fs=>rw[e]at p2;exact p2
     |bad=>rw[e]at p2;exact p2
end
section
variable{K:PySem.W.Frag}{cls:String->Option Addr}{W:XW}{Av G S₀ S S' H H' B B':Hp}{ρ:ag}{σ:St}{Q:VK}
def ED:V->Option Int
 |.int i=>some i
 |_=>none
def JO(K:PySem.W.Frag)(cls:String->Option Addr)(W:XW)(to:TO)(m:ag->OE):Prop:=∀ Av G S₀ ρ σ S H (Q:Option Int->Hp->Prop),SR K cls Av G S₀ ρ σ S H ->
 mY K cls W σ S H (fun v H'=>Q (ED v) H') (m ρ)->to σ H Q
theorem He:JO K cls W zw (mC .non):=fun Av G S₀ ρ σ S H Q I p=>p .non S H (bj.refl I.sh) (by show Rep K S _ _;unfold Rep;rfl)
theorem GQ{m:ag->OE}(h:JE K cls W te m):JO K cls W (Gv te) (Ck m):=by
 intro Av G S₀ ρ σ S H Q I p
 refine h.go I p fun r v S1 H1 I1 w1 r1 p1=>?_
 cases e:r.pv with
 | int i=>
   rw[e]at p1
   have hv:v=.int i:=by have:=r1.rd I1.sh;rw[e]at this;exact dg this
   exact⟨i,hv,p1 (.int i) S1 H1 (bj.refl I1.sh) (by show Rep K S1 _ _;unfold Rep;rfl)⟩
 |_=>rw[e]at p1;exact p1.elim
theorem JO.go{m:ag->OE}{f:RV->OE}{Q':Option Int->Hp->Prop}(h:JO K cls W to m)(I:SR K cls Av G S₀ ρ σ S H)(p:mY K cls W σ S H Q ((m ρ).bind f))
  (k:∀ r v S1 H1,SR K cls Av G S₀ ρ σ S1 H1->bj S H S1 H1->nR K H S1 H1 r v->mY K cls W σ S1 H1 Q (f r)->Q' (ED v) H1):to σ H Q':=by
 refine h Av G S₀ ρ σ S H Q' I ?_
 cases e:m ρ with
 |ok r=>rw[e]at p;exact fun v S1 H1 w r1=>k r v S1 H1 (I.grow w) w r1 (p.back w)
 |exc c fs=>rw[e]at p;exact p
 |bad=>rw[e]at p;exact p
theorem part_of(h:RdV K S H x v):ED v=vL x:=by
 cases x with
 |int i=>rw[dg h];rfl
 |non=>rw[jA h];rfl
 |bl b=>rw[pq h];rfl
 |str b=>rw[j3 h];rfl
 |lst xs=>obtain⟨p,vs,rfl,_⟩:=iJ h;rfl
 |tup xs=>obtain⟨p,vs,rfl,_⟩:=m9 h;rfl
theorem b0.cut(h:b0 K S xs vs)(lo hi:Option Int):b0 K S (Fz xs lo hi) (Eo vs lo hi):=by
 have es:∀ n d o,BC n d o=HT.sIx n d o:=fun n d o=>by cases o<;>rfl
 unfold Fz Eo;simp only[es];rw[h.length]
 exact(h.drop _).take _
theorem Kr{ma ml mh:ag->OE}(ha:JE K cls W te ma)(hl:JO K cls W tl ml)(hh:JO K cls W th mh):JE K cls W (tSl (M5 K) te tl th) (Iq ma ml mh):=by
 intro Av G S₀ ρ σ S H Q I p
 refine ha.go I p fun a v S1 H1 I1 w1 r1 p1=>hl.go I1 p1 fun l u S2 H2 I2 w2 r2 p2=>hh.go I2 p2 fun h z S3 H3 I3 w3 r3 p3=>?_
 rw[part_of (r2.rd I2.sh),part_of (r3.rd I3.sh)];have ra:=((r1.rd I1.sh).mono w2.s w2.g).mono w3.s w3.g
 cases e:a.pv with
 | lst xs=>
   rw[e]at p3 ra;obtain⟨q,vs,rfl,hq,hr⟩:=iJ ra
   exact⟨q,vs,rfl,hq,fun b hb=>p3 _ S3 _ (bj.heap I3.sh hb) ⟨b,_,rfl,hb,I3.sh.free hb,bL,hr.cut _ _⟩⟩
 |_=>rw[e]at p3;exact p3.elim
theorem join_some{α:Type}{o:Option (Option α)}{s:α}(h:o.join=some s):o=some (some s):=by
 cases o with
 |none=>cases h
 | some x=>cases x with
   |none=>cases h
   |some y=>rw[show y=s from Option.some.inj h]
theorem HF{α:Type}{l:List (Option α)}{ι:List Nat}{j:Nat}{s:α}(h:(ι.map fun i=>(l[i]?).join)[j]?=some (some s)):∃ i,ι[j]?=some i /\ l[i]?=some (some s):=by
 rw[List.getElem?_map]at h
 cases e:ι[j]? with
 |none=>rw[e]at h;cases h
 |some i=>rw[e]at h;exact⟨i,rfl,join_some (Option.some.inj h)⟩
def JH(ι:List Nat)(Av:Hp):Hp:=fun j=>match ι[j]? with
 |some i=>Av i
 |none=>none
def Ab(ι:List Nat)(F:Nat->List Addr):Nat->List Addr:=fun j=>match ι[j]? with
 |some i=>F i
 |none=>[]
theorem vi.at(h:vi K cls Av G S H i s v fp)(e:Av' j=Av i):vi K cls Av' G S H j s v fp:=by
 cases s with
 |sh x=>exact h
 |ow xs=>exact h
 |ex c fs=>exact h
 |tr io t=>exact⟨h.1,h.2.1,h.2.2.1,fun z=>by rw[e];exact h.2.2.2 z⟩
 |bo t=>exact h
theorem SR.pick{ι:List Nat}{x:PV}{v:V}(I:SR K cls Av G S₀ ρ σ S H)(hι:ι.Nodup)(hx:Rep K S x v):SR K cls (JH ι Av) G S₀ (dv ι ρ++[some (.sh x)]) (L2.E.pick ι σ++[some v]) S H:=by
 obtain⟨F,J⟩:=I
 have hl:(dv ι ρ).length=(L2.E.pick ι σ).length:=by unfold dv L2.E.pick;simp
 have hp:(dv ι ρ).length=ι.length:=by unfold dv;simp
 refine⟨Ab ι F,J.gh,J.s0,J.sh,J.new,fun j s e=>?_,fun j k a h1 h2=>?_,fun j a h=>?_,by unfold dv L2.E.pick;simp⟩
 . by_cases hj:j<(dv ι ρ).length
   . rw[List.getElem?_append_left hj]at e;obtain⟨i,e1,e2⟩:=HF e;obtain⟨u,e3,r⟩:=J.own i s e2
     refine⟨u,?_,?_⟩
     . rw[List.getElem?_append_left (by rw[<- hl];exact hj)];unfold L2.E.pick;rw[List.getElem?_map,e1];show some (σ[i]?).join=_;rw[e3];rfl
     . unfold Ab;rw[e1];exact r.at (by unfold JH;rw[e1])
   . have hj':(dv ι ρ).length<=j:=Nat.le_of_not_lt hj
     rw[List.getElem?_append_right hj']at e
     have h0:j - (dv ι ρ).length=0:=by
      by_cases h:j - (dv ι ρ).length=0
      . exact h
      . rw[List.getElem?_eq_none (by simp;omega)]at e;cases e
     rw[h0]at e;cases e
     refine⟨v,?_,?_,hx⟩
     . rw[List.getElem?_append_right (by rw[<- hl];exact hj'),<- hl,h0];rfl
     . unfold Ab;rw[List.getElem?_eq_none (by rw[<- hp];exact hj')]
 . unfold Ab at h1 h2
   cases e1:ι[j]? with
   |none=>rw[e1]at h1;cases h1
   | some i=>
     cases e2:ι[k]? with
     |none=>rw[e2]at h2;cases h2
     | some i'=>
       rw[e1]at h1;rw[e2]at h2;have z:=J.apart i i' a h1 h2;subst z;obtain⟨ha,ea⟩:=List.getElem?_eq_some_iff.mp e1;obtain⟨hb,eb⟩:=List.getElem?_eq_some_iff.mp e2
       exact(List.getElem_inj hι).mp (ea.trans eb.symm)
 . unfold Ab at h
   cases e1:ι[j]? with
   |none=>rw[e1]at h;cases h
   |some i=>rw[e1]at h;exact J.live i a h
theorem FT{me:ag->OE}(h:dc me ρ (x ::xs)=.ok ys):∃ r y zs,me (ρ++[some (.sh x)])=.ok r /\ mK r=some y /\ dc me ρ xs=.ok zs /\ ys=y ::zs:=by
 unfold dc at h
 cases e:me (ρ++[some (.sh x)])with
 | ok r=>
   rw[e]at h;simp only[OE.gb]at h
   cases e2:mK r with
   |none=>rw[e2]at h;cases h
   | some y=>
     rw[e2]at h
     dsimp only at h
     cases e3:dc me ρ xs with
     |ok zs=>rw[e3]at h;cases h;exact⟨r,y,zs,rfl,e2,rfl,rfl⟩
     |exc c fs=>rw[e3]at h;cases h
     |bad=>rw[e3]at h;cases h
 |exc c fs=>rw[e]at h;cases h
 |bad=>rw[e]at h;cases h
theorem qX{J:It}{ι:List Nat}{me:ag->OE}{xs ys:List PV}(hι:ι.Nodup)(he:JE K cls (fun _ _ _ _=>False) te me)(I:SR K cls Av G S₀ ρ σ S H)(hy:dc me (dv ι ρ) xs=.ok ys)(hl:ys.length<=lim)
  (go:∀ k H' x,aK H H'->xs[k]?=some x->J.go k H' /\ ∀ v H2,J.yld k H' v H2->H2=H' /\ Rep K S x v) (stop:∀ H',aK H H'->J.stop xs.length H')
  (hQ:∀ D S' H',bj S H S' H'->H D=none->S' D=none->(∃ us,H' D=some (.lst us) /\ b0 K S' ys us)->Q (.ref D) H'):
  ∀ D,H D=none->∃ W:Nat->Nat->List V->Hp->Prop,(∃ m,W 0 m [] (upd H D (.lst []))) /\ ∀ i m us H',W i m us H' ->
    H' D=some (.lst us) /\ ((J.stop i H' /\ Q (.ref D) H') \/ (J.go i H' /\ ∀ x H2,J.yld i H' x H2->te (L2.E.pick ι σ++[some x]) H2 fun y H3=>H3 D=some (.lst us) /\ us.length<sizeLine /\ ∃ m',m'<m /\ W (i+1) m' (us++[y]) (upd H3 D (.lst (us++[y]))))):=by
 intro D nD
 refine⟨fun k m us H'=>m+k=xs.length /\ H' D=some (.lst us) /\ ∃ S' zs ws,aK S S' /\ aK H H' /\ aK S' H' /\ (∀ b,S' b≠none->S b≠none \/ (H b=none /\ b≠D)) /\ b0 K S' zs us /\ dc me (dv ι ρ) (xs.drop k)=.ok ws /\ ys=zs++ws,
  ⟨xs.length,rfl,bL,S,[],ys,aK.refl _,aK.new nD,I.sh.trans (aK.new nD),fun b z=>.inl z,.nil,hy,rfl⟩,?_⟩
 rintro k m us H' ⟨hm,hD,S',zs,ws,s1,g1,sh1,n1,r1,e1,rfl⟩
 refine⟨hD,?_⟩
 have hSD:S' D=none:=by
  cases q:S' D with
  |none=>rfl
  | some o=>
    rcases n1 D (by rw[q];simp)with z|⟨_,z⟩
    . exact absurd (I.sh.free nD) z
    . exact absurd rfl z
 by_cases hk:k<xs.length
 . refine .inr ?_
   have hx:xs[k]?=some xs[k]:=by simp[hk]
   obtain⟨hgo,hyld⟩:=go k H' xs[k] g1 hx
   refine⟨hgo,fun v H2 hv=>?_⟩
   obtain⟨rfl,rv⟩:=hyld v H2 hv;rw[List.drop_eq_getElem_cons hk]at e1;obtain⟨r,y,zs',em,es,e2,rfl⟩:=FT e1
   have I1:SR K cls Av G S₀ ρ σ S' H2:=I.grow ⟨s1,g1,sh1,fun b z=>by
    rcases n1 b z with z|⟨z,_⟩
    . exact .inl z
    . exact .inr z⟩
   refine he _ G S₀ _ _ S' H2 _ (I1.pick hι (Rep.mono s1 rv)) ?_;rw[em];intro u S2 H3 w2 r2;obtain⟨S3,w3,s3,ru⟩:=r2.share w2 es
   have hl2:(zs++y ::zs').length<=lim:=hl
   have hSD3:S3 D=none:=by
    cases q:S3 D with
    |none=>rfl
    | some o=>
      rcases w3.new D (by rw[q];simp)with z|z
      . exact absurd hSD z
      . rw[hD]at z;cases z
   refine⟨w3.g _ _ hD,?_,m - 1,by omega,by omega,bL,S3,zs++[y],zs',s1.trans w3.s,(g1.trans w3.g).upd nD,w3.sh.upd hSD3,fun b z=>?_,(r1.mono w3.s).append (.cons ru .nil),e2,by simp⟩
   . rw[r1.length,<- GJ];rw[List.length_append,List.length_cons]at hl2;omega
   . rcases w3.new b z with z|z
     . exact n1 b z
     . refine .inr ⟨g1.free z,fun e=>?_⟩;rw[e,hD]at z;cases z
 . have hk':k=xs.length:=by omega
   subst hk';refine .inl ⟨stop H' g1,?_⟩;rw[List.drop_length]at e1;cases e1
   exact hQ D S' H' ⟨s1,g1,sh1,fun b z=>by
    rcases n1 b z with z|⟨z,_⟩
    . exact .inl z
    . exact .inr z⟩ nD hSD ⟨us,hD,by rw[List.append_nil];exact r1⟩
theorem vK{ml me:ag->OE}{ι:List Nat}(hι:ι.Nodup)(hl:JE K cls W tl ml)(he:JE K cls (fun _ _ _ _=>False) te me):JE K cls W (uP (Ah K tl) ι te) (uw ml ι me):=by
 intro Av G S₀ ρ σ S H Q I p
 refine hl.go I p fun r v S1 H1 I1 w1 r1 p1=>?_
 have ra:=r1.rd I1.sh
 cases e:r.pv with
 | lst xs=>
   rw[e]at p1 ra;obtain⟨a,vs,rfl,hq,hr⟩:=iJ ra
   refine⟨a,rfl,⟨vs,hq⟩,?_⟩
   dsimp only at p1
   cases em:dc me (dv ι ρ) xs with
   |exc c fs=>rw[em]at p1;exact p1.elim
   |bad=>rw[em]at p1;exact p1.elim
   | ok ys=>
     rw[em]at p1;simp only[noX]at p1;split at p1
     . rename_i hlen
       refine qX hι he I1 em hlen (fun k H' x g hx=>?_) (fun H' g=>⟨vs,aK.seq g hq,by rw[hr.length];exact Nat.le_refl _⟩) fun D S' H' w nD sD ⟨us,hD,rr⟩=>p1 (.ref D) S' H' w ⟨D,us,rfl,nD,sD,hD,rr⟩
       obtain⟨u,hu,ru⟩:=hr.get hx
       refine⟨⟨vs,u,aK.seq g hq,hu⟩,?_⟩
       rintro v' H2 ⟨rfl,hv⟩
       have:=hv vs (aK.seq g hq);rw[hu]at this;cases this
       exact⟨rfl,ru⟩
     . exact p1.elim
 |_=>rw[e]at p1;exact p1.elim
theorem wN{mn me:ag->OE}{ι:List Nat}(hι:ι.Nodup)(hn:JE K cls W tn mn)(he:JE K cls (fun _ _ _ _=>False) te me):JE K cls W (uP (Cv (jx tn mG)) ι te) (vN mn ι me):=by
 intro Av G S₀ ρ σ S H Q I p
 refine hn.go I p fun r v S1 H1 I1 w1 r1 p1=>?_
 have ra:=r1.rd I1.sh
 cases e:r.pv with
 | int j=>
   rw[e]at p1 ra;have hv:=dg ra;subst hv
   dsimp only at p1
   split at p1
   . rename_i hj
     refine⟨j,rfl,hj.1,hj.2,?_⟩
     cases em:dc me (dv ι ρ) (cT j.toNat)with
     |exc c fs=>rw[em]at p1;exact p1.elim
     |bad=>rw[em]at p1;exact p1.elim
     | ok ys=>
       rw[em]at p1;simp only[noX]at p1;split at p1
       . rename_i hlen
         have hln:(cT j.toNat).length=j.toNat:=by unfold cT;simp
         refine qX hι he I1 em hlen (fun k H' x g hx=>?_) (fun H' g=>by rw[hln];exact Nat.le_refl _) fun D S' H' w nD sD ⟨us,hD,rr⟩=>p1 (.ref D) S' H' w ⟨D,us,rfl,nD,sD,hD,rr⟩
         have hk:k<j.toNat:=by rw[<- hln];exact(List.getElem?_eq_some_iff.mp hx).1
         refine⟨hk,?_⟩
         rintro v' H2 ⟨rfl,rfl⟩
         refine⟨rfl,?_⟩
         have:x=.int (k:Int):=by
          unfold cT at hx;rw[List.getElem?_map,List.getElem?_range hk]at hx
          exact(Option.some.inj hx).symm
         subst this;unfold Rep;rw[Int.zero_add]
       . exact p1.elim
   . exact p1.elim
 |_=>rw[e]at p1;exact p1.elim
theorem b0.begin(h:b0 K S xs vs)(N:List Str)(i:Nat)(s:Sl)(e:(lS N.length xs)[i]?=some (some s)):∃ x v,s=.sh x /\ (L2.start N vs)[i]?=some (some v) /\ Rep K S x v:=by
 unfold lS at e
 by_cases hi:i<xs.length
 . rw[List.getElem?_append_left (by simpa using hi),List.getElem?_map]at e
   have hx:xs[i]?=some xs[i]:=by simp[hi]
   rw[hx]at e;cases e;obtain⟨v,hv,r⟩:=h.get hx
   refine⟨_,v,rfl,?_,r⟩
   unfold L2.start;rw[List.getElem?_append_left (by rw[List.length_map,h.length];exact hi),List.getElem?_map,hv];rfl
 . rw[List.getElem?_append_right (by simpa using hi)]at e;rw[List.getElem?_replicate]at e
   split at e<;>cases e
theorem OJ{P:Program}{w:World}{mg:Str->Option Value}{base:Heap}{x qual:Str}{st:Stmt}{f:Addr}{fd:FuncData}{N ps:List Str}{k:Nat}{m:ag->OS}(F:Fun K x qual st f fd)(Sc:aT N ps (aA st))
  (hbody:∀(cdv:Value) (A:Around) (outer:List Env) (s:Shared) (H:Hp) (E:XK),iK k (A.deeper (envOfC qual (aA st) s.heap.objs.size f cdv)) ->
    ∃ t,PSs (uq (CXE P w) P w K mg base N qual (aA st) f cdv A outer s H E) (dO st) t /\ JS K cls (fun C a _ H=>∀ H',aK H H'->E C a H') t m):cx P w K mg base (CXE P w) (k+1) f fd ps (spP K cls (fnP ps.length N.length m)):=by
 refine okX F Sc (fun vs H Q E h=>?_) fun cdv A outer s H vs Q E hr h=>?_
 . obtain⟨S,xs,_,r,q⟩:=h;unfold fnP at q;split at q
   . rw[r.length];assumption
   . exact q.elim
 . obtain⟨S,xs,sS,r,q⟩:=h;unfold fnP at q;split at q
   . rename_i hl;obtain⟨t,ht,J⟩:=hbody cdv A outer s H E hr
     refine⟨t,ht,?_⟩
     refine J (fun _=>none) H S (lS N.length xs) (start N vs) S H _ ⟨fun _=>[],aK.refl _,aK.refl _,sS,fun _ z=>.inl z,fun i s e=>?_,fun i j a h=>(nomatch h),fun i a h=>(nomatch h),?_⟩ ?_
     . obtain⟨x,v,rfl,e1,rx⟩:=r.begin N i s e
       exact⟨v,e1,rfl,rx⟩
     . unfold lS L2.start;simp[r.length]
     . cases e:m (lS N.length xs)with
       |nx ρ'=>rw[e]at q;exact fun σ' S' H' I' s'=>q .non S' H' ⟨I'.s0,I'.gh,I'.sh,I'.new⟩ (by show Rep K S' _ _;unfold Rep;rfl)
       |bk ρ'=>rw[e]at q;exact q.elim
       |ct ρ'=>rw[e]at q;exact q.elim
       |bad=>rw[e]at q;exact q.elim
       | rt ρ' r=>
         rw[e]at q
         cases r with
         |al ys=>exact q.elim
         |sh y=>exact fun v σ' S' H' b' s' rr=>q v S' H' ⟨b'.s0,b'.gh,b'.sh,b'.new⟩ rr
         |fr ys=>exact fun v σ' S' H' b' s' rr=>q v S' H' ⟨b'.s0,b'.gh,b'.sh,b'.new⟩ rr
       | exc ρ' c fs=>
         rw[e]at q
         exact fun a C σ' S' H' I' s' x H2 g2=>q a C S' H2 ⟨I'.s0,I'.gh.trans g2,I'.sh.trans g2,I'.new⟩ (x.mono (aK.refl _) g2)
   . exact q.elim
def zq(K:PySem.W.Frag):Sp:=fun vs H Q _=>∃(a:Addr) (ns:List Int),vs=[.ref a] /\ SqL K H a (ns.map V.int) /\ ns.length<=63 /\ ∀ H',Q (.bl true) H'
theorem HR{f:List PV->OE}(h:∀ ns:List Int,ns.length<=63->f [.lst (ns.map .int)]=.ok (.sh (.bl true)))(vs:List V)(H:Hp)(Q:VK)(E:XK)(q:zq K vs H Q E):spP K cls f vs H Q E:=by
 obtain⟨a,ns,rfl,hS,hl,q⟩:=q
 refine⟨H,[.lst (ns.map .int)],aK.refl _,.cons (by unfold Rep;exact⟨a,_,rfl,hS,b0.ints⟩) .nil,?_⟩
 rw[h ns hl];intro v S' H' w r
 have:v=.bl true:=by have r':Rep K S' (.bl true) v:=r;unfold Rep at r';exact r'
 subst this;exact q H'
end
section
variable{K:PySem.W.Frag}{cls:String->Option Addr}{W:XW}{Av G S₀ S S' H H' B B':Hp}{ρ:ag}{σ:St}{Q:VK}
theorem HI{i:Nat}{te:TE}{me:ag->OE}{f:Int->Int->Int}(he:JE K cls W te me):JS K cls W (G0 i te (ipI f)) (xr i (gI (fun _ _=>true) fun i j=>.int (f i j)) me):=by
 intro Av G S₀ ρ σ S H D I p;unfold xr at p;split at p
 . rename_i x e;obtain⟨v,e1,r⟩:=I.good i _ e
   refine⟨v,e1,he.goS I p fun rr u S1 H1 I1 w1 r1 p1=>?_⟩
   have ra:=r1.rd I1.sh
   cases x with
   | int a=>
     cases eb:rr.pv with
     | int b=>
       rw[eb]at p1 ra
       have r':Rep K S (.int a) v:=r
       unfold Rep at r';subst r'
       exact⟨a,b,rfl,dg ra,p1 _ S1 H1 (I1.Ao (by unfold Rep;rfl)) (aK.refl _)⟩
     |_=>rw[eb]at p1;exact p1.elim
   |_=>cases eb:rr.pv<;>(rw[eb]at p1;exact p1.elim)
 . exact p.elim
theorem jX{i:Nat}{te:TE}{me:ag->OE}(he:JE K cls W te me):JS K cls W (G0 i te (ipI fun i j=>i+j)) (xr i dZ me):=HI he
theorem yf{x:PV}{v:V}(h:RdV K S H x v):decide (v=.non)=cG x:=by
 cases x with
 |non=>rw[jA h];rfl
 |bl b=>rw[pq h];rfl
 |int b=>rw[dg h];rfl
 |str b=>rw[j3 h];rfl
 |lst xs=>obtain⟨p,vs,rfl,_⟩:=iJ h;rfl
 |tup xs=>obtain⟨p,vs,rfl,_⟩:=m9 h;rfl
theorem wY:JR K (fun x y H Q=>y=.non /\ Q (.bl (decide (x=.non))) H) A9:=by
 intro S H x y v u rr Q I hx hy e k;unfold A9 at e;split at e
 . cases e
   exact⟨jA hy,k _ S H (bj.refl I) (by rw[yf hx];exact o8)⟩
 . cases e
theorem yH:JR K (fun x y H Q=>y=.non /\ Q (.bl (!decide (x=.non))) H) xU:=by
 intro S H x y v u rr Q I hx hy e k;unfold xU at e;split at e
 . cases e
   exact⟨jA hy,k _ S H (bj.refl I) (by rw[yf hx];exact o8)⟩
 . cases e
end
end L2.P
namespace L2
open PySem PySem.Spec PyProof.Rows
structure QE(X:Cx)(e:Expr)(t:TE):Prop where
 out:PE X e t
structure QA(X:Cx)(es:List Expr)(t:TA):Prop where
 out:PA X es t
structure QS(X:Cx)(st:Stmt)(t:TS):Prop where
 out:PS X st t
structure QSs(X:Cx)(st:List Stmt)(t:TS):Prop where
 out:PSs X st t
structure QT(X:Cx)(e:Expr)(t:TT):Prop where
 out:PT X e t
structure QW(X:Cx)(e:Expr)(t:TT):Prop where
 out:PW X e t
structure QI(X:Cx)(tg e:Expr)(t:TI):Prop where
 out:PI X tg e t
structure QG(X:Cx)(e:Expr)(t:TG):Prop where
 out:PG X e t
structure QO(X:Cx)(e:Option Expr)(t:TO):Prop where
 out:PO X e t
end L2
namespace L2
theorem qau(h:True:=by first|rfl|decide|exact .inl rfl|exact .inr rfl|exact .inr (.inl rfl)|exact .inr (.inr rfl)|assumption|(intro _;rfl)|with_unfolding_all rfl):True:=h
end L2
namespace L2.E
open PySem PySem.Spec PyProof.Rows L2
theorem u4:QE X (Expr.Constant (Const.bool b) j pos) (tC (V.bl b)):=⟨MK ⟩
theorem ai:QE X (Expr.Constant (Const.int i) j pos) (tC (V.int i)):=⟨LJ ⟩
theorem aM:QE X (Expr.Constant (Const.str x) j pos) (tC (V.str x)):=⟨KY ⟩
theorem cY:QE X (Expr.Constant Const.none j pos) (tC V.non):=⟨KS ⟩
theorem qv{X:Cx}(h1:Nat)(h4:autoParam (X.N[h1]?=some x) qau._auto_1)(h5:autoParam (Vis X.env.scope x) qau._auto_1)(h6:autoParam ((x==Str.ofString "__debug__")=false) qau._auto_1)(h7:autoParam ((x==Str.ofString "__classdict__")=false) qau._auto_1):QE X (Expr.Name x pos) (AX h1):=⟨pv h1 h4 h5 h6 h7⟩
theorem aQ{X:Cx}(h5:Gl X x)(h6:X.mg x=some u)(h7:RelV v u)(h8:autoParam ((x==Str.ofString "__debug__")=false) qau._auto_1):QE X (Expr.Name x pos) (tC v):=⟨IS h5 h6 h7 h8⟩
theorem qZ{X:Cx}(h5:Gl X x)(h6:X.mg x=none)(h7:bootBuiltins x=some u)(h8:RelV v u)(h9:autoParam (x≠Str.ofString "__name__") qau._auto_1)(h10:autoParam ((x==Str.ofString "__debug__")=false) qau._auto_1):QE X (Expr.Name x pos) (tC v):=⟨GZ h5 h6 h7 h8 h9 h10⟩
theorem Mr(h4:QE X a ta):QE X (Expr.UnaryOp UnaryOp.Not a pos) (FF ta):=⟨Lm h4.out⟩
theorem nW{r:V->Hp->VK->Prop}(h6:UnR X (unaryOp op) r)(h7:QE X a ta):QE X (Expr.UnaryOp op a pos) (tUn r ta):=⟨M6 h6 h7.out⟩
theorem aD(h8:OpR X (binaryOp op) r)(h9:QE X a ta)(h10:QE X b tb):QE X (Expr.BinOp a op b pos) (tOp r ta tb):=⟨MS h8 h9.out h10.out⟩
theorem i4(h8:OpR X (compareOp op) r)(h9:QE X a ta)(h10:QE X b tb)(h11:behindInMarks op b=false):QE X (Expr.Compare a [op] [b] pos) (tOp r ta tb):=⟨Ij h8 h9.out h10.out h11⟩
theorem GF(h12:OpR X (compareOp op) r)(h13:OpR X (compareOp op') r')(h14:QE X a ta)(h15:QE X b tb)(h16:QE X c tc)(h17:autoParam (lastMarks [op,op'] [b,c]=false) qau._auto_1):QE X (Expr.Compare a [op,op'] [b,c] pos) (wo r r' ta tb tc):=⟨Et h12 h13 h14.out h15.out h16.out h17⟩
theorem EE(h5:QE X a t):QE X (Expr.BoolOp op [a] pos) t:=⟨L3 h5.out⟩
theorem Fh{X:Cx}{a:Expr}{b:Expr}{ta:TE}{tb:TE}{pos:Pos}{rest:List Expr}(h7:QE X a ta)(h8:QE X (Expr.BoolOp BoolOp.And (b ::rest) pos) tb):QE X (Expr.BoolOp BoolOp.And (a ::b ::rest) pos) (Gr ta tb):=⟨Ka h7.out h8.out⟩
theorem cH(h8:QT X c tA)(h9:QE X a ta)(h10:QE X b tb):QE X (Expr.IfExp c a b pos) (tIf tA ta tb):=⟨FA h8.out h9.out h10.out⟩
theorem aU(h4:QA X es t):QE X (Expr.List es pos) (HQ t):=⟨Md h4.out⟩
theorem ck(h5:QA X es t):QE X (Expr.Tuple es x1 pos) (LY t):=⟨KU h5.out⟩
theorem EN{X:Cx}{e:Expr}{te:TE}{lo:Option Expr}{hi:Option Expr}{tl:TO}{th:TO}{pos:Pos}{p2:Pos}{r:V->Option Int->Option Int->Hp->VK->Prop}(h10:SlR X r)(h11:QE X e te)(h12:QO X lo tl)(h13:QO X hi th):QE X (Expr.Subscript e (Expr.Slice lo hi none p2) pos) (tSl r te tl th):=⟨E7 h10 h11.out h12.out h13.out⟩
theorem MO(h7:IxR X r)(h8:QE X a ta)(h9:QE X b tb)(h10:zr b):QE X (Expr.Subscript a b pos) (tOp r ta tb):=⟨MT h7 h8.out h9.out h10⟩
theorem mX{X:Cx}{cl:List (Str×Addr)}(h12:oJ X scope cl M ι x)(h13:X.calm=true)(h14:QI X (Expr.Name x px) iter wi)(h15:∀(C:Addr) (s₀:Shared) (H₀:Hp) (ex:List Addr),QE (blk X scope cl (M++[x]) C s₀ H₀ ex) elt te)(h16:autoParam (∀(v:Value),foldedSetIterable iter X.env v=pure v) qau._auto_1):QE X (Expr.ListComp elt [Comprehension.mk (Expr.Name x px) iter [] 0] scope pos) (uP wi ι te):=⟨IG h12 h13 h14.out (fun z0 z1 z2 z3=>(h15 z0 z1 z2 z3).out) h16⟩
theorem FG{X:Cx}{x:Str}(h15:cx X.prog X.w X.K X.mg X.base (CXE X.prog X.w) k f fd ps sp)(h16:iK k X.A)(h17:Gl X x)(h18:X.mg x=some (Value.ref f))(h19:PySem.W.keepIn X.K (Value.ref f)=true)(h20:Binds X.K fd ps ds)(h21:Vals dvs ds)(h22:Thr X W)(h23:QA X (e ::es) t)(h24:autoParam ((x==Str.ofString "__debug__")=false) qau._auto_1)(h25:autoParam (starEach (e ::es) X.env=(false,eval e X.env) ::starEach es X.env) qau._auto_1)(h26:autoParam ((List.any (backTo pos (starEach es X.env)) fun x=>x.fst)=false) qau._auto_1):QE X (Expr.Call (Expr.Name x p) (e ::es) [] pos) (sf sp dvs W t):=⟨Fy h15 h16 h17 h18 h19 h20 h21 h22 h23.out h24 h25 h26⟩
theorem jz{X:Cx}{x:Str}{p:Pos}{pos:Pos}{e:Expr}{es:List Expr}{t:TA}{id:String}{r:List V->Hp->VK->Prop}(h9:nZ X (Value.builtin id) r)(h10:Gl X x)(h11:X.mg x=none)(h12:bootBuiltins x=some (Value.builtin id))(h13:QA X (e ::es) t)(h14:autoParam (x≠Str.ofString "__name__") qau._auto_1)(h15:autoParam ((x==Str.ofString "__debug__")=false) qau._auto_1)(h16:autoParam (starEach (e ::es) X.env=(false,eval e X.env) ::starEach es X.env) qau._auto_1)(h17:autoParam ((List.any (backTo pos (starEach es X.env)) fun x=>x.fst)=false) qau._auto_1):QE X (Expr.Call (Expr.Name x p) (e ::es) [] pos) (tCB r t):=⟨GC h9 h10 h11 h12 h13.out h14 h15 h16 h17⟩
theorem gM{X:Cx}{x:Str}{r:List V->Hp->VK->Prop}(h9:nZ X (Value.type T) r)(h10:Gl X x)(h11:X.mg x=none)(h12:bootBuiltins x=some (Value.type T))(h13:QA X (e ::es) t)(h14:autoParam (x≠Str.ofString "__name__") qau._auto_1)(h15:autoParam ((x==Str.ofString "__debug__")=false) qau._auto_1)(h16:autoParam (starEach (e ::es) X.env=(false,eval e X.env) ::starEach es X.env) qau._auto_1)(h17:autoParam ((List.any (backTo pos (starEach es X.env)) fun x=>x.fst)=false) qau._auto_1):QE X (Expr.Call (Expr.Name x p) (e ::es) [] pos) (tCB r t):=⟨DH h9 h10 h11 h12 h13.out h14 h15 h16 h17⟩
theorem Jc{X:Cx}{o:Expr}{e:Expr}{es:List Expr}{to:TE}{t:TA}{name:Str}{apos:Pos}{cpos:Pos}{T:String}{id:String}{r:V->List V->Hp->VK->Prop}(h12:PlainAttrs T)(h13:Slot T name id)(h14:typeOf (Value.builtin id)=pure (Value.type "method_descriptor"))(h15:MtR X id r)(h16:QE X o to)(h17:QA X (e ::es) t)(h18:autoParam (attributeBase o name X.env (eval o X.env)=eval o X.env) qau._auto_1)(h19:autoParam ((((List.all (backTo cpos (starEach (e ::es) X.env)) fun x=>!x.fst)&&List.all (backToKw cpos (keywordEach [] X.env)) fun x=>Option.isSome x.fst)&&Decidable.decide ((List.length (e ::es)+List.length ([]:List Keyword)+if List.isEmpty ([]:List Keyword)=true then 0 else 1)<30))=true) qau._auto_1)(h20:autoParam ((apos.endLine==cpos.line)=true) qau._auto_1)(h21:autoParam (starEach (e ::es) X.env=(false,eval e X.env) ::starEach es X.env) qau._auto_1)(h22:autoParam ((List.any (backTo cpos (starEach es X.env)) fun x=>x.fst)=false) qau._auto_1):QE X (Expr.Call (Expr.Attribute o name apos) (e ::es) [] cpos) (tBM X.K T r to t):=⟨Nn h12 h13 h14 h15 h16.out h17.out h18 h19 h20 h21 h22⟩
theorem BQ{X:Cx}{o:Expr}{to:TE}{name:Str}{apos:Pos}{cpos:Pos}{T:String}{id:String}{r:V->List V->Hp->VK->Prop}(h9:PlainAttrs T)(h10:Slot T name id)(h11:typeOf (Value.builtin id)=pure (Value.type "method_descriptor"))(h12:MtR X id r)(h13:QE X o to)(h14:autoParam (attributeBase o name X.env (eval o X.env)=eval o X.env) qau._auto_1)(h15:autoParam ((apos.endLine==cpos.line)=true) qau._auto_1):QE X (Expr.Call (Expr.Attribute o name apos) [] [] cpos) (K0 X.K T r to):=⟨Mi h9 h10 h11 h12 h13.out h14 h15⟩
theorem G2:QO X none zw:=⟨IC ⟩
theorem G1(h3:QE X e te):QO X (some e) (Gv te):=⟨Ic h3.out⟩
theorem av:QA X [] mG:=⟨Ll ⟩
theorem aa(h5:QE X e te)(h6:QA X es t)(h7:autoParam (isStar e=false) qau._auto_1):QA X (e ::es) (jx te t):=⟨E2 h5.out h6.out h7⟩
theorem ir(h8:OpR X (compareOp op) r)(h9:QE X a ta)(h10:QE X b tb)(h11:behindInMarks op b=false):QT X (Expr.Compare a [op] [b] pos) (xS (tOp r ta tb)):=⟨IH h8 h9.out h10.out h11⟩
theorem mE(h12:OpR X (compareOp op) r)(h13:OpR X (compareOp op') r')(h14:QE X a ta)(h15:QE X b tb)(h16:QE X c tc)(h17:autoParam (lastMarks [op,op'] [b,c]=false) qau._auto_1):QT X (Expr.Compare a [op,op'] [b,c] pos) (xS (wo r r' ta tb tc)):=⟨Gw h12 h13 h14.out h15.out h16.out h17⟩
theorem qF(h4:QT X a tA):QT X (Expr.UnaryOp UnaryOp.Not a pos) (HH tA):=⟨L9 h4.out⟩
theorem bA{X:Cx}(h3:QE X a ta)(h4:∀(whole:Sem Value),
 isTrue a X.env whole=do
  let v <- whole
  standAt (Expr.pos a)
  holding [v] (truthy v)):QT X a fun σ H Q=>ta σ H fun x H'=>∃ k,BW X.K x H' k /\ Q k H':=⟨GH h3.out h4⟩
theorem kC(h3:QW X e t):QT X e t:=⟨PW.pt h3.out⟩
theorem kn(h4:QT X a tA):QW X (Expr.BoolOp BoolOp.And [a] pos) tA:=⟨G6 h4.out⟩
theorem sU(h4:QT X a tA):QW X (Expr.BoolOp BoolOp.Or [a] pos) tA:=⟨L4 h4.out⟩
theorem kf{X:Cx}{a:Expr}{b:Expr}{pos:Pos}{tA:TT}{tB':TT}{rest:List Expr}(h7:QT X a tA)(h8:QW X (Expr.BoolOp BoolOp.And (b ::rest) pos) tB'):QW X (Expr.BoolOp BoolOp.And (a ::b ::rest) pos) (KG tA tB'):=⟨Kx h7.out h8.out⟩
theorem pV{X:Cx}{a:Expr}{b:Expr}{pos:Pos}{tA:TT}{tB':TT}{rest:List Expr}(h7:QT X a tA)(h8:QW X (Expr.BoolOp BoolOp.Or (b ::rest) pos) tB'):QW X (Expr.BoolOp BoolOp.Or (a ::b ::rest) pos) (tOr tA tB'):=⟨MV h7.out h8.out⟩
theorem jV{X:Cx}(h6:Gl X (Str.ofString "range"))(h7:X.mg (Str.ofString "range")=none)(h8:QA X [a] ta)(h9:autoParam (starEach [a] X.env=[(false,eval a X.env)]) qau._auto_1):QI X tg (Expr.Call (Expr.Name (Str.ofString "range") p) [a] [] pos) (Cv ta):=⟨DN h6 h7 h8.out h9⟩
theorem oH{X:Cx}(h4:QE X l tl):QI X tg l (Ah X.K tl):=⟨IY h4.out⟩
theorem KH{X:Cx}(h4:QE X l tl):QI X tg l (Kv X.K tl):=⟨Mm h4.out⟩
theorem LN{X:Cx}{pos:Pos}(h7:List.Nodup X.N)(h8:X.N[i]?=some x)(h9:Loc X.env.scope x)(h10:QE X e te)(h11:autoParam (swapsWith e (some (Expr.Name x pos')) pos.line X.env=pure false) qau._auto_1)(h12:autoParam (X.fn x=true \/ List.lookup x X.env.scope.names=some NameKind.local) qau._auto_1):QS X (Stmt.Assign [Expr.Name x pos'] e pos) (vm te (mm i)):=⟨L6 h7 h8 h9 h10.out h11 h12⟩
theorem wu{X:Cx}{pos:Pos}(h6:QE X e te)(h7:QG X tg g)(h8:autoParam (swapsWithSole [tg] e pos.line X.env=pure false) qau._auto_1)(h9:autoParam (swappedStores [tg] e X.env=pure none) qau._auto_1)(h10:autoParam (List.map (fun x=>x.snd) (assignEach [tg] X.env)=[assign tg X.env]) qau._auto_1):QS X (Stmt.Assign [tg] e pos) (vm te g):=⟨Mn h6.out h7.out h8 h9 h10⟩
theorem uj{X:Cx}(h9:List.Nodup X.N)(h10:X.N[i]?=some x)(h11:Loc X.env.scope x)(h12:QE X e te)(h13:PIp X op ti)(h14:autoParam (X.fn x=true \/ List.lookup x X.env.scope.names=some NameKind.local) qau._auto_1):QS X (Stmt.AugAssign (Expr.Name x pos') op e pos) (G0 i te ti):=⟨KR h9 h10 h11 h12.out h13 h14⟩
theorem aX(h8:QT X c tc)(h9:QSs X a t)(h10:QSs X b u):QS X (Stmt.If c a b pos) (IT tc t u):=⟨Nj h8.out h9.out h10.out⟩
theorem az(h4:QE X e te):QS X (Stmt.Return (some e) pos) (IE te):=⟨KA h4.out⟩
theorem y6{X:Cx}{pos:Pos}(h4:QE X e te)(h5:autoParam (swapsWith e none pos.line X.env=pure false) qau._auto_1):QS X (Stmt.Expr e pos) (uX te):=⟨IW h4.out h5⟩
theorem lV{X:Cx}(h6:PassesOwn (model X.prog X.w) X.A X.env X.xe)(h7:QT X c tc)(h8:QSs X body tb):QS X (Stmt.While c body [] pos) (Bu tc tb):=⟨Fl h6 h7.out h8.out⟩
theorem qw{X:Cx}(h8:PassesOwn (model X.prog X.w) X.A X.env X.xe)(h9:X.calm=true)(h10:QI X tg iter wi)(h11:QG X tg g)(h12:QSs X body tb)(h13:autoParam (∀(x:Value),foldedSetIterable iter X.env x=pure x) qau._auto_1):QS X (Stmt.For tg iter body [] pos) (F4 wi g tb):=⟨La h8 h9 h10.out h11.out h12.out h13⟩
theorem lE{X:Cx}(h4:List.Nodup X.N)(h5:X.N[i]?=some x)(h6:Loc X.env.scope x)(h7:autoParam (X.fn x=true \/ List.lookup x X.env.scope.names=some NameKind.local) qau._auto_1):QG X (Expr.Name x pos) (mm i):=⟨IZ h4 h5 h6 h7⟩
theorem aE:QSs X [] Gh:=⟨Hb ⟩
theorem au{X:Cx}{st:Stmt}{t:TS}(h3:QS X st t):QSs X [st] t:=⟨Iu h3.out⟩
theorem aj{X:Cx}{st:Stmt}{rest:List Stmt}{t:TS}{u:TS}(h5:QS X st t)(h6:QSs X rest u):QSs X (st ::rest) (KN t u):=⟨EI h5.out h6.out⟩
end L2.E
namespace L2.P
open PySem PySem.Spec PyProof.Rows L2 L2.E
theorem fi{K:PySem.W.Frag}{cls:String->Option Addr}{P:Program}{w:World}{mg:Str->Option Value}{base:Heap}{x qual:Str}{st:Stmt}{f:Addr}{fd:FuncData}{N ps:List Str}{k:Nat}{m:ag->OS}(F:Fun K x qual st f fd)(Sc:aT N ps (aA st))
  (hbody:∀(cdv:Value) (A:Around) (outer:List Env) (s:Shared) (H:Hp) (E:XK),iK k (A.deeper (envOfC qual (aA st) s.heap.objs.size f cdv)) ->
    ∃ t,QSs (uq (CXE P w) P w K mg base N qual (aA st) f cdv A outer s H E) (dO st) t /\ JS K cls (fun C a _ H=>∀ H',aK H H'->E C a H') t m):cx P w K mg base (CXE P w) (k+1) f fd ps (spP K cls (fnP ps.length N.length m)):=
 OJ F Sc fun cdv A outer s H E hr=>let ⟨t,h1,h2⟩:=hbody cdv A outer s H E hr;⟨t,h1.out,h2⟩
end L2.P
namespace L2.E
open PySem PySem.Spec PyProof.Rows L2
end L2.E
namespace L2.P
open PySem PySem.Spec PyProof.Rows L2 L2.E
end L2.P
namespace L2.E
open PySem PySem.Spec PyProof.Rows L2
section
variable{prog:Program}{w:World}{A:Around}{E:Value->Shared->Prop}{s:Shared}{K:PySem.W.Frag}{x C:Addr}{name:Str}{v:Value}
open PySem.W in
open PySem.W in
end
def M3(a C:Addr)(dx:Option Addr)(h:Heap):Prop:=∃ o t,h.get? a=some o /\ o.cls=.ref C /\ o.dict=dx /\ o.data=.fields #[.ref t,.none,.none,.none,.bool false,.none]
theorem M3.exc{a C:Addr}{dx:Option Addr}{h:Heap}(x:M3 a C dx h):Km a C dx h:=let ⟨o,t,e,c,d,f⟩:=x;⟨o,_,e,c,d,f,rfl⟩
section
variable{prog:Program}{w:World}{A:Around}{E:Value->Shared->Prop}{s:Shared}{K:PySem.W.Frag}{x C:Addr}{name:Str}{v:Value}{tk:Tok}
open PySem.W in
end
section
variable{prog:Program}{w:World}{A:Around}{E:Value->Shared->Prop}{hh:Heap}{g:Array GenState}{d:Drawn}{t:Nat}{os:OsState}{K:PySem.W.Frag}{x C:Addr}{name:Str}{v:Value}{tk:Tok}
open PySem.W in
end
section
variable{prog:Program}{w:World}{A:Around}{E:Value->Shared->Prop}{s:Shared}{K:PySem.W.Frag}{x C:Addr}{name:Str}{v:Value}
open PySem.W in
end
section
variable{prog:Program}{w:World}{A:Around}{E:Value->Shared->Prop}{h:Heap}{g:Array GenState}{d:Drawn}{t:Nat}{os:OsState}{K:PySem.W.Frag}
variable{nm q:Str}{C N:Addr}{bs bm bmB:List Value}{hdct:Bool}{sn:List Str}{sub:List Value}{ab:Bool}{col:Option Bool}{dd:Option Addr}{k0 k1 k2 k3 k5:Option Value}{B newId initId:String}
open PySem.W in
open PySem.W in
end
theorem vO{X:Cx}{o i:Expr}{to ti:TE}{t:Kg}{pos:Pos}(ho:QE X o to)(hi:QE X i ti)(hs:Lo X t)
  (ha:∀ v,assign (.Subscript o i pos) X.env v=(do
    let ov <- holding [v] (eval o X.env)
    let iv <- holding [v,ov] (eval i X.env)
    standAt pos
    holding [v,ov,iv] (setItem ov iv v)
    release [v,ov,iv] []):=by intro _;rfl):QG X (.Subscript o i pos) (Il to ti t):=⟨Mj ho.out hi.out hs ha⟩
end L2.E
namespace L2.P
open PySem PySem.Spec PyProof.Rows L2 L2.E
section
variable{K:PySem.W.Frag}{cls:String->Option Addr}{W:XW}{S H:Hp}
theorem Lc{i:Nat}{tk tv:TE}{mk mv:ag->OE}(hk:JE K cls W tk mk)(hv:JE K cls W tv mv):JS K cls W (vm tv (Il (AX i) tk Fq)) (G9 i mk mv):=by
 intro Av G S₀ ρ σ S H D I p;unfold G9 at p;split at p
 . rename_i xs e;refine hv Av G S₀ ρ σ S H _ I ?_
   cases em:mv ρ with
   |exc c fs=>rw[em]at p;exact fun a C S' H' w x=>p a C σ S' H' (I.grow w) w.s x
   |bad=>rw[em]at p;exact p
   | ok r=>
     rw[em]at p;intro u S1 H1 w1 r1;simp only[OE.cy]at p
     cases es:mK r with
     |none=>rw[es]at p;exact p.elim
     | some y=>
       rw[es]at p;obtain⟨S2,w2,s2,rx⟩:=r1.share w1 es;have I2:=I.grow w2;obtain⟨v,e1,a,vs,rfl,h1,h2,h3,h4⟩:=I2.good i _ e
       refine⟨_,e1,?_⟩
       refine hk.goS I2 (p.back w2.s) fun kk z S3 H3 I3 w3 r3 p3=>?_
       have rk:=r3.rd I3.sh
       cases ek:kk.pv with
       | int k=>
         rw[ek]at p3 rk;have hz:=dg rk;subst hz
         dsimp only at p3
         cases ej:ixP xs.length k with
         |none=>rw[ej]at p3;exact p3.elim
         | some j=>
           rw[ej]at p3
           refine⟨a,vs,k,j,rfl,rfl,w3.g _ _ h3,by rw[h4.length];exact ej,?_⟩
           exact p3 σ S3 _ (I3.mut e e1 ((h4.mono w3.s).set (Rep.mono w3.s rx) j)) (aK.refl _)
       |_=>rw[ek]at p3;exact p3.elim
 . exact p.elim
end
end L2.P
namespace L2.P
open PySem
inductive Stp where
 |ix (k:Nat)|fd (f:Str)
def qQ:List Str->List OV->Str->Option OV
 |k ::ks,t ::ts,f=>if k=f then some t else qQ ks ts f
 |_,_,_=>none
def xo:List Str->List OV->Str->OV->List OV
 |k ::ks,t ::ts,f,u=>if k=f then u ::ts else t ::xo ks ts f u
 |_,ts,_,_=>ts
def OV.at1:OV->Stp->Option OV
 |.ol ts,.ix k=>ts[k]?
 |.ob _ ks ts,.fd f=>qQ ks ts f
 |_,_=>none
def OV.gn:OV->Stp->OV->OV
 |.ol ts,.ix k,u=>.ol (ts.set k u)
 |.ob c ks ts,.fd f,u=>.ob c ks (xo ks ts f u)
 |t,_,_=>t
def OV.get:OV->List Stp->Option OV
 |t,[]=>some t
 |t,s ::π=>(t.at1 s).bind fun u=>u.get π
def OV.put:OV->List Stp->OV->OV
 |_,[],u=>u
 | t,s ::π,u=>match t.at1 s with
   |some t'=>t.gn s (t'.put π u)
   |none=>t
def slT:Sl->Option OV
 |.tr _ t=>some t
 |.bo t=>some t
 |_=>none
def gB(i:Nat)(ρ:ag):Option OV:=match ρ[i]? with
 |some (some s)=>slT s
 |_=>none
abbrev MP:=ag->Option (List Stp)
def aI:MP:=fun _=>some []
def pIx(i:Nat)(mp:MP)(mk:ag->OE):MP:=fun ρ=>match gB i ρ with
 | some t=>(match mp ρ with
   | some π=>(match t.get π with
     | some (.ol ts)=>(match mk ρ with
       | .ok r=>(match r.pv with
         |.int k=>(ixP ts.length k).map fun j=>π++[.ix j]
         |_=>none)
       |_=>none)
     |_=>none)
   |none=>none)
 |none=>none
def subAt(i:Nat)(mp:MP)(ρ:ag):Option OV:=match gB i ρ with
 | some t=>(match mp ρ with
   |some π=>t.get π
   |none=>none)
 |none=>none
def pFd(i:Nat)(mp:MP)(f:Str)(ok:String->Bool):MP:=fun ρ=>match subAt i mp ρ with
 |some (.ob c ks ts)=>if(ok c&&(qQ ks ts f).isSome)=true then(mp ρ).map fun π=>π++[.fd f]else none
 |_=>none
def xg:List OV->Option (List PV)
 |[]=>some []
 |.sh x ::r=>(xg r).map (x ::·)
 |_ ::_=>none
@[simp] theorem xP(xs:List PV):xg (xs.map .sh)=some xs:=by
  induction xs with
  |nil=>rfl
  |cons x xs ih=>show(xg (xs.map .sh)).map (x ::·)=_;rw[ih];rfl
def de(i:Nat)(mp:MP):ag->OE:=fun ρ=>match subAt i mp ρ with
 |some (.sh x)=>.ok (.sh x)
 | some (.ol ts)=>(match xg ts with
   |some xs=>.ok (.al xs)
   |none=>.bad)
 |_=>.bad
def dE(i:Nat)(mp:MP):ag->OT:=fun ρ=>match subAt i mp ρ with
 |some (.ol ts)=>.ok (!ts.isEmpty)
 |_=>.bad
def gJ(i:Nat)(mp:MP):ag->OE:=fun ρ=>match subAt i mp ρ with
 |some (.ol ts)=>.ok (.sh (.int ts.length))
 |_=>.bad
inductive OD where
 |ok (t:OV)|exc (c:String) (fs:XF)|bad
inductive ODs where
 |ok (ts:List OV)|exc (c:String) (fs:XF)|bad
def mD(me:ag->OE):ag->OD:=fun ρ=>match me ρ with
 |.ok (.sh x)=>.ok (.sh x)
 |.ok (.fr xs)=>.ok (.ol (xs.map .sh))
 |.ok (.al _)=>.bad
 |.exc c fs=>.exc c fs
 |.bad=>.bad
def mDn:ag->ODs:=fun _=>.ok []
def mDc(md:ag->OD)(mr:ag->ODs):ag->ODs:=fun ρ=>match md ρ with
 | .ok t=>(match mr ρ with
   |.ok ts=>.ok (t ::ts)
   |.exc c fs=>.exc c fs
   |.bad=>.bad)
 |.exc c fs=>.exc c fs
 |.bad=>.bad
def mDl(mr:ag->ODs):ag->OD:=fun ρ=>match mr ρ with
 |.ok ts=>if ts.length<=lim then .ok (.ol ts)else .bad
 |.exc c fs=>.exc c fs
 |.bad=>.bad
def lx(i:Nat)(md:ag->OD):ag->OS:=fun ρ=>match md ρ with
 |.ok t=>.nx (ρ.set i (some (.tr false t)))
 |.exc c fs=>.exc ρ c fs
 |.bad=>.bad
def vd(i:Nat)(mp:MP)(ρ:ag)(k:OV->(OV->ag)->OS):OS:=match ρ[i]? with
 | some (some (.tr io t))=>(match mp ρ with
   | some π=>(match t.get π with
     |some u=>k u fun u'=>ρ.set i (some (.tr io (t.put π u')))
     |none=>.bad)
   |none=>.bad)
 |_=>.bad
def bR(i:Nat)(mp:MP)(md:ag->OD):ag->OS:=fun ρ=>vd i mp ρ fun u put=>match u with
 | .ol ts=>(match md ρ with
   |.ok x=>if ts.length<lim then .nx (put (.ol (ts++[x])))else .bad
   |.exc c fs=>.exc ρ c fs
   |.bad=>.bad)
 |_=>.bad
def qj(i:Nat)(mp:MP)(mk:ag->OE)(md:ag->OD):ag->OS:=fun ρ=>match md ρ with
 | .ok x=>vd i mp ρ fun u put=>(match u with
   | .ol ts=>(mk ρ).cy ρ fun r=>(match r.pv with
     | .int k=>(match ixP ts.length k with
       |some j=>.nx (put (.ol (ts.set j x)))
       |none=>.bad)
     |_=>.bad)
   |_=>.bad)
 |.exc c fs=>.exc ρ c fs
 |.bad=>.bad
def Gj(i:Nat)(mp:MP)(f:Str)(okc:String->Bool)(md:ag->OD):ag->OS:=fun ρ=>match md ρ with
 | .ok x=>vd i mp ρ fun u put=>(match u with
   |.ob c ks ts=>if(okc c&&decide (ks.length<1000))=true then(if ks.contains f=true then .nx (put (.ob c ks (xo ks ts f x)))else .nx (put (.ob c (ks++[f]) (ts++[x]))))else .bad
   |_=>.bad)
 |.exc c fs=>.exc ρ c fs
 |.bad=>.bad
inductive OX where
 |ok (ρ:ag) (s:Sl)|exc (ρ:ag) (c:String) (fs:XF)|bad
def slO:OV->Sl
 |.sh x=>.sh x
 |t=>.tr false t
def mR(i:Nat)(mp:MP):ag->OX:=fun ρ=>match ρ[i]? with
 | some (some (.tr io t))=>(match mp ρ with
   | some π=>(match t.get π with
     | some (.ol ts)=>(match ts.getLast? with
       |some x=>.ok (ρ.set i (some (.tr io (t.put π (.ol ts.dropLast))))) (slO x)
       |none=>.bad)
     |_=>.bad)
   |none=>.bad)
 |_=>.bad
def nio:Sl->Bool
 |.tr true _=>false
 |.bo _=>false
 |_=>true
def iE(i:Nat)(m:ag->OX):ag->OS:=fun ρ=>match m ρ with
 |.ok ρ' s=>if nio s then .nx (ρ'.set i (some s))else .bad
 |.exc ρ' c fs=>.exc ρ' c fs
 |.bad=>.bad
def HZ(neg:Bool)(m:ag->OX)(a b:ag->OS):ag->OS:=fun ρ=>match m ρ with
 | .ok ρ' (.sh x)=>(match vb x with
   |some k=>if(k != neg)=true then a ρ' else b ρ'
   |none=>.bad)
 |.ok _ _=>.bad
 |.exc ρ' c fs=>.exc ρ' c fs
 |.bad=>.bad
mutual
def pvO:OV->Option PV
 |.sh x=>some x
 |.ol ts=>(wG ts).map .lst
 |.ob _ _ _=>none
 |.di _=>none
 |.dt _=>none
def wG:List OV->Option (List PV)
 |[]=>some []
 |t ::ts=>(pvO t).bind fun x=>(wG ts).map (x ::·)
end
def qV(i:Nat)(ρ:ag):ag:=match ρ[i]? with
 | some (some (.tr false t))=>(match pvO t with
   |some x=>ρ.set i (some (.sh x))
   |none=>ρ)
 |_=>ρ
def qh(i:Nat)(m:ag->OS):ag->OS:=fun ρ=>m (qV i ρ)
inductive OI where
 |ok (x:PV) (outs:List (Option OV))|exc (c:String) (fs:XF) (outs:List (Option OV))|bad
inductive Arg where
 |e (me:ag->OE)|t (i:Nat) (mp:MP)|b (i:Nat) (mp:MP)
def qC:Option Sl->Option OV
 |some (.tr true t)=>some t
 |_=>none
def uh(np:Nat):OS->OI
 |.nx ρ=>.ok .non ((ρ.take np).map qC)
 |.rt ρ (.sh x)=>.ok x ((ρ.take np).map qC)
 |.exc ρ c fs=>.exc c fs ((ρ.take np).map qC)
 |_=>.bad
def lg(n:Nat)(as:List Sl):ag:=as.map some++List.replicate (n - as.length) none
def fnI(np n:Nat)(m:ag->OS)(as:List Sl):OI:=if as.length=np then uh np (m (lg n as))else .bad
def nC(a:Arg)(ρ:ag):Option Sl:=match a with
 | .e me=>(match me ρ with
   |.ok r=>(mK r).map .sh
   |_=>none)
 | .t i mp=>(match ρ[i]? with
   |some (some (.tr _ t))=>((mp ρ).bind fun π=>t.get π).map (.tr true)
   |_=>none)
 |.b i mp=>(subAt i mp ρ).map .bo
def jT:List Arg->ag->Option (List Sl)
 |[],_=>some []
 |a ::as,ρ=>(nC a ρ).bind fun s=>(jT as ρ).map (s ::·)
def kY(ρ₀:ag):Arg->Option OV->ag->ag
 | .t i mp,some u,ρ=>(match ρ[i]? with
   | some (some (.tr io t))=>(match mp ρ₀ with
     |some π=>ρ.set i (some (.tr io (t.put π u)))
     |none=>ρ.set i none)
   |_=>ρ.set i none)
 |.t i _,none,ρ=>ρ.set i none
 |_,_,ρ=>ρ
def fQ(ρ₀:ag):List Arg->List (Option OV)->ag->ag
 |[],_,ρ=>ρ
 |a ::as,us,ρ=>fQ ρ₀ as us.tail (kY ρ₀ a us.head?.join ρ)
def jP(f:List Sl->OI)(as:List Arg):ag->OX:=fun ρ=>match jT as ρ with
 | some ss=>(match f ss with
   |.ok x outs=>.ok (fQ ρ as outs ρ) (.sh x)
   |.exc c fs outs=>.exc (fQ ρ as outs ρ) c fs
   |.bad=>.bad)
 |none=>.bad
def yN(f:List Sl->OI)(as:List Arg):ag->OE:=fun ρ=>match jT as ρ with
 | some ss=>(match f ss with
   |.ok x _=>.ok (.sh x)
   |.exc c fs _=>.exc c fs
   |.bad=>.bad)
 |none=>.bad
def recv(c:String)(m:Str):Option Sl->Bool
 |some (.tr true (.ob c' ks _))=>c'==c && !ks.contains m
 |some (.bo (.ob c' ks _))=>c'==c && !ks.contains m
 |_=>false
def pL(c:String)(m:Str)(f:List Sl->OI)(as:List Arg):ag->OX:=fun ρ=>match as with
 |a ::_=>if recv c m (nC a ρ)=true then jP f as ρ else .bad
 |[]=>.bad
def ph(c:String)(m:Str)(f:List Sl->OI)(as:List Arg):ag->OE:=fun ρ=>match as with
 |a ::_=>if recv c m (nC a ρ)=true then yN f as ρ else .bad
 |[]=>.bad
def xT(c:String)(f:List Sl->OI):ag->OD:=fun _=>match f [.tr true (.ob c [] [])]with
 |.ok .non (some t ::_)=>.ok t
 |_=>.bad
def pb(i j:Nat)(mb:ag->OS):List PV->ag->OS
 |[],ρ=>.nx ρ
 |.tup [x,y] ::xs,ρ=>(mb ((ρ.set i (some (.sh x))).set j (some (.sh y)))).turn (pb i j mb xs)
 |_ ::_,_=>.bad
def uY(k:Nat):List PV->List PV
 |[]=>[]
 |x ::xs=>.tup [.int k,x] ::uY (k+1) xs
noncomputable def CC(i j:Nat)(ml:ag->OE)(mb:ag->OS):ag->OS:=fun ρ=>(ml ρ).cy ρ fun r=>match BH r with
 |some xs=>pb i j mb (uY 0 xs) ρ
 |none=>.bad
noncomputable def vJ(ml:ag->OE)(ι:List Nat)(me:ag->OE):ag->OE:=fun ρ=>(ml ρ).bind fun r=>match r.pv with
 |.tup xs=>noX (dc me (dv ι ρ) xs)
 |_=>.bad
noncomputable def iQ(mc:ag->OT)(me:ag->OE)(ρ:ag):List PV->OA
 |[]=>.ok []
 | x ::xs=>(match mc (ρ++[some (.sh x)])with
   | .ok true=>(me (ρ++[some (.sh x)])).gb fun r=>(match mK r with
     |some y=>(iQ mc me ρ xs).gb fun ys=>.ok (y ::ys)
     |none=>.bad)
   |.ok false=>iQ mc me ρ xs
   |_=>.bad)
noncomputable def wB(ml:ag->OE)(ι:List Nat)(mc:ag->OT)(me:ag->OE):ag->OE:=fun ρ=>(ml ρ).bind fun r=>match r.pv with
 |.lst xs=>noX (iQ mc me (dv ι ρ) xs)
 |_=>.bad
noncomputable def HB(ma ms:ag->OE):ag->OE:=fun ρ=>(ma ρ).bind fun a=>(ms ρ).bind fun k=>match a.pv,k.pv with
 |.lst xs,.int k=>if k=-1 then .ok (.fr xs.reverse)else .bad
 |_,_=>.bad
noncomputable def nM:PV->Option RV
 |.lst xs=>some (.sh (.tup xs))
 |.tup xs=>some (.sh (.tup xs))
 |_=>none
mutual
noncomputable def fg:PV->PV->Bool
 |.non,y=>(match y with|.non=>true|_=>false)
 |.bl a,y=>(match y with|.bl b=>a==b|.int j=>(if a then 1 else 0)==j|_=>false)
 |.int i,y=>(match y with|.bl b=>i==(if b then 1 else 0)|.int j=>i==j|_=>false)
 |.str x,y=>(match y with|.str z=>x==z|_=>false)
 |.lst xs,y=>(match y with|.lst ys=>qe xs ys|_=>false)
 |.tup xs,y=>(match y with|.tup ys=>qe xs ys|_=>false)
noncomputable def qe:List PV->List PV->Bool
 |[],ys=>(match ys with|[]=>true|_ ::_=>false)
 |x ::xs,ys=>(match ys with|y ::ys=>fg x y&&qe xs ys|[]=>false)
end
mutual
noncomputable def qf:PV->Nat->Bool
 |.str x,_=>x.cps.all (·<0x110000)
 |.lst xs,n=>(match n with|0=>false|n+1=>tK xs n)
 |.tup xs,n=>(match n with|0=>false|n+1=>tK xs n)
 |_,_=>true
noncomputable def tK:List PV->Nat->Bool
 |[],_=>true
 |x ::xs,n=>qf x n&&tK xs n
end
noncomputable def zX:PV->PV->Option RV:=fun x y=>if(qf x 64&&qf y 64)=true then some (.sh (.bl (!fg x y)))else none
theorem B4(ns:List Int):∀ ms:List Int,qe (ns.map .int) (ms.map .int)=decide (ns=ms):=by
 induction ns with
 |nil=>intro ms;cases ms<;>simp[qe]
 | cons n ns ih=>
   intro ms
   cases ms with
   |nil=>simp[qe]
   |cons m ms=>simp[qe,fg,ih,Bool.beq_eq_decide_eq]
theorem Bc(ns:List Int)(n:Nat):tK (ns.map .int) n=true:=by
 induction ns with
 |nil=>simp[tK]
 |cons n ns ih=>simp[tK,qf,ih]
noncomputable def dQ:PV->Bool
 |.lst _=>false
 |.tup _=>false
 |_=>true
noncomputable def kA:PV->PV->Option Bool
 |x,.tup ys=>if ys.all dQ=true then some (ys.any fun y=>fg y x)else none
 |x,.lst ys=>if ys.all dQ=true then some (ys.any fun y=>fg y x)else none
 |_,_=>none
noncomputable def gIn:PV->PV->Option RV:=fun x y=>(kA x y).map fun b=>.sh (.bl b)
noncomputable def oB:PV->PV->Option RV:=fun x y=>(kA x y).map fun b=>.sh (.bl (!b))
noncomputable def Cf(kvs:List (Int×PV)):PV->Option RV
 |.int n=>(kvs.lookup n).map .sh
 |_=>none
noncomputable def ib(kvs:List (Int×PV)):PV->Option RV
 |.int n=>some (.sh ((kvs.lookup n).getD .non))
 |_=>none
end L2.P
namespace L2
open PySem PySem.Spec PyProof.Rows
section
variable{X:Cx}{pins:List (Addr×Obj)}{σ:St}{H:Hp}{s:Shared}{h':Heap}
theorem Inv.Eg{t':Nat}{its:List Addr}{a:Addr}{o:HO}(I:Inv X pins σ H s)(k:∀ b u,b∉its->s.heap.get? b=some u->h'.get? b=some u)(hf:∀ b∈its,pQ X pins H b)
  (hp:s.heap.objs.size<=a) (new:gD X.prog X.w (upd H a o) h' a o):Inv X pins σ (upd H a o) { s with heap:=h',toks:=t' }:=by
 have hn:=I.hok.fresh hp
 have nit:∀ b u,H b=some u->b∉its:=fun b u e z=>by rw[(hf b z).1]at e;cases e
 refine I.step (g':=s.gens) (d':=s.drawn) (ch:=its) (fun b hb=>?_) (fun b u _ _ hc e _=>k b u hc e) (fun b u _ _ hc e _=>⟨u.slots,k b u hc e⟩)
  (fun b u _ q n=>by rw[bP (Nat.ne_of_lt (Nat.lt_of_lt_of_le (Heap.lt_size q) hp))];exact n)
  (fun b u hc e=>⟨u,k b u hc e⟩) (fun b xs q=>by rw[bP (eU q hn)];exact q) (fun b u xs q=>by rw[bP (eU q hn)];exact q) (fun b ps q=>⟨#[],by rw[bP (eU q hn),q];simp⟩) (fun m hm=>?_) (fun b u e=>?_) I.bare
 . obtain⟨_,f1,f2,f3,f4,f5⟩:=hf b hb
   exact⟨f3,f1,f4,f5⟩
 . obtain⟨ob,es,ep,ho,r⟩:=hm
   exact⟨ob,es,ep,k _ ob (fun z=>(hf _ z).2.1 rfl) ho,r⟩
 . by_cases hb:b=a
   . subst hb;rw[bL]at e;cases e;exact new
   . rw[bP hb]at e
     refine(I.hok b u e).vk (fun c v hc q=>k c v ?_ q) (fun c q=>by rw[bP (eU q hn)];exact q) fun c xs q=>by rw[bP (eU q hn)];exact q
     rcases hc with z|z
     . rw[z];exact nit b u e
     . exact nit c _ z
end
noncomputable def Ite(K:PySem.W.Frag)(a:Addr):It:=
 ⟨fun i H=>∃ xs x,SqL K H a xs /\ xs[i]?=some x,fun i H v H'=>∃ t x,(∀ xs,SqL K H a xs->xs[i]?=some x) /\ H t=none /\ v=.ref t /\ H'=upd H t (.tup [.int i,x]),fun i H=>∃ xs,SqL K H a xs /\ xs.length<=i⟩
theorem D2{P:Program}{w:World}{K:PySem.W.Frag}{elts:List Expr}{k:Nat}{pos:Pos}(a e it:Addr)(hei:e≠it):
  Turn P w K (.Tuple elts k pos) (Ite K a) [e,it] e (fun i h=>(∃ old,IsEnum h e it i old) /\ h.IsListIter it a i) where
 mem:=by simp
 obj:=fun i h st b hb=>by
  obtain⟨⟨old,h1⟩,o,h2,c,d⟩:=st
  rcases List.mem_cons.mp hb with z|z
  . subst z;exact⟨_,h1,fun v z=>by cases z⟩
  . have z':b=it:=by simpa using z
    subst z';exact⟨o,h2,fun v z=>by rw[d]at z;cases z⟩
 keep:=fun i h h' st k=>by
  obtain⟨⟨old,h1⟩,h2⟩:=st
  exact⟨⟨old,k e (by simp) _ h1⟩,h2.at fun o x=>k it (by simp) o x⟩
 item:=by
  intro X hP hw hK hc i pins s σ H E I hf st hg;subst hP hw hK;obtain⟨xs,x,hq,hx⟩:=hg;obtain⟨its,rv,p,hz⟩:=I.list hq;obtain⟨u,hu,ru⟩:=rv.get hx;obtain⟨⟨old,he⟩,hit⟩:=st
  refine wpAny_pyNext_enum_item he hit p.isList (x:=u) (by simpa using hu) hei fun h1 ho hit1 hT hsz hk=>⟨_,rfl,?_⟩
  refine wpAny_letOwnedTupleGo_enum ho fun h2 he2 hs2=>?_
  have hT2:h2.get? s.heap.objs.size=some { cls:=.type "tuple",data:=.seq #[.int i s.toks,u] }:=(hs2.2 _ (Nat.ne_of_gt (Heap.lt_size he))).trans hT
  have nH:H s.heap.objs.size=none:=I.hok.fresh (Nat.le_refl _)
  refine⟨.ref s.heap.objs.size,upd H s.heap.objs.size (.tup [.int i,x]),I.Eg (its:=[e,it]) (t':=s.toks+1) (fun b o hb q=>?_) hf (Nat.le_refl _) ?_,rfl,⟨_,x,fun ys hy=>by rw[I.Az hy hq];exact hx,nH,rfl,rfl⟩,⟨⟨u,by simpa using he2⟩,?_⟩,fun b hb=>?_⟩
  . have nb:b≠e /\ b≠it:=by simpa using hb
    exact(hs2.2 b nb.1).trans (hk b o nb.1 nb.2 q)
  . exact⟨by show 2<=sizeLine;decide,[.int i s.toks,u],.cons ⟨_,rfl⟩ (.cons ru .nil),⟨_,hT2,rfl,_,rfl⟩⟩
  . exact hit1.at fun o y=>(hs2.2 it hei.symm).trans y
  . have:b < s.heap.objs.size:=by
     rcases List.mem_cons.mp hb with z|z
     . subst z;exact Heap.lt_size he
     . have z':b=it:=by simpa using z
       subst z';obtain⟨_,y,_⟩:=hit;exact Heap.lt_size y
    rw[bP (Nat.ne_of_lt this)]
    exact(hf b hb).1
 done:=by
  intro X hP hw hK hc i pins s σ H E I hf st hg;subst hP hw hK;obtain⟨xs,hq,hx⟩:=hg;obtain⟨its,rv,p,hz⟩:=I.list hq;obtain⟨⟨old,he⟩,hit⟩:=st;obtain⟨f0,f1,f2,f3,f4,f5⟩:=hf it (by simp);have hl:=rv.length
  exact wpAny_pyNext_enum_end (I.ok.hd hc) he hit p.isList (by simp;omega) fun h' eb=>⟨rfl,I.turned (t':=s.toks) (fun b o hb e=>eb b o hb e) f0 f1 f3 f4 f5⟩
 self:=fun _ _ _ _ _ st h=>by
  obtain⟨⟨old,he⟩,_⟩:=st;exact wpAny_pyIter_enum he h
section
variable{X:Cx}
noncomputable def Gi(K:PySem.W.Frag)(ta:TA):TI:=fun σ H R=>ta σ H fun vs H1=>∃ a,vs=[.ref a] /\ (∃ xs,SqL K H1 a xs) /\ R (Ite K a) H1
theorem IM{elts:List Expr}{k:Nat}{tp:Pos}{a:Expr}{ta:TA}{p pos:Pos}(hg:Gl X "enumerate")(hm:X.mg "enumerate" = none)(ha:PA X [a] ta)(hs:starEach [a] X.env=[(false,eval a X.env)]:=by rfl):
  PI X (.Tuple elts k tp) (.Call (.Name "enumerate" p) [a] [] pos) (Gi X.K ta):=by
 intro pins s σ H R I h;refine Call_ (wJ I hg hm (show bootBuiltins "enumerate" = some (.type "enumerate") by rfl) (PyProof.Rows.callWith_type1 (thn (ha pos pins s σ H _ I h) fun us s1 ⟨vs,H1,I1,r1,q1⟩=>?_) hs rfl));obtain⟨l,e,⟨xs,hq⟩,q⟩:=q1;subst e
 cases r1 with
 | cons r rr=>
   cases rr;cases r;obtain⟨its,rv,p,hz⟩:=I1.list hq
   refine call_enumerate_list p.isList fun h' he hit hsz hk=>?_
   refine wpAny_pyIter_enum he ?_
   have I2:Inv X pins σ H1 { s1 with heap:=h' }:=I1.kept (t':=s1.toks) hk
   refine⟨s1.heap.objs.size+1,[s1.heap.objs.size+1,s1.heap.objs.size],_,_,H1,rfl,I2,D2 l _ _ (Nat.succ_ne_self _),⟨⟨.none,he⟩,hit⟩,fun b hb=>?_,q⟩
   have:s1.heap.objs.size<=b:=by
    rcases List.mem_cons.mp hb with z|z
    . subst z;exact Nat.le_succ _
    . have z':b=s1.heap.objs.size:=by simpa using z
      subst z';exact Nat.le_refl _
   exact I1.Dw this (I1.hok.fresh this)
end
theorem ER{K:PySem.W.Frag}{a:Addr}{xs:List V}{g:TG}{tb:TS}{D:Ends}{σ:St}{H:Hp}(Pv:Nat->St->Hp->Prop)(h0:Pv 0 σ H)(hl:∀ i σ H,i<=xs.length->Pv i σ H->SqL K H a xs)
  (hs:∀ i x σ H t,xs[i]?=some x->Pv i σ H->H t=none->g (.ref t) σ (upd H t (.tup [.int i,x])) fun σ2 H2=>tb { D with nx:=Pv (i+1),ct:=Pv (i+1),bk:=D.nx } σ2 H2) (hd:∀ σ H,Pv xs.length σ H->D.nx σ H):
  ∃ W:Nat->Nat->St->Hp->Prop,(∃ m,W 0 m σ H) /\ ∀ i m σ H,W i m σ H ->
    ((Ite K a).stop i H /\ D.nx σ H) \/ ((Ite K a).go i H /\ ∃ N:St->Hp->Prop,(∀ σ' H',N σ' H'->∃ m',m'<m /\ W (i+1) m' σ' H') /\ ∀ x H',(Ite K a).yld i H x H'->g x σ H' fun σ2 H2=>tb { D with nx:=N,ct:=N,bk:=D.nx } σ2 H2):=by
 refine⟨fun i m σ H=>m=xs.length - i /\ i<=xs.length /\ Pv i σ H,⟨xs.length,by simp,Nat.zero_le _,h0⟩,?_⟩
 rintro i m σ H ⟨rfl,hi,p⟩
 have q:=hl i σ H hi p
 by_cases hlt:i<xs.length
 . refine .inr ⟨⟨xs,xs[i],q,by simp[hlt]⟩,Pv (i+1),fun σ' H' p'=>⟨xs.length - (i+1),by omega,rfl,hlt,p'⟩,fun x H' y=>?_⟩;obtain⟨t,z,y1,y3,e1,e2⟩:=y;subst e1 e2;exact hs i z σ _ t (y1 xs q) p y3
 . have e:i=xs.length:=by omega
   subst e;exact .inl ⟨⟨xs,q,Nat.le_refl _⟩,hd σ H p⟩
end L2
namespace L2.P
open PySem PySem.Spec PyProof.Rows L2 L2.E PySem.SeqAt
mutual
noncomputable def dOf:PV->PyData
 |.non=>.none
 |.bl b=>.bool b
 |.int i=>.int i
 |.str x=>.str x
 |.lst xs=>.list (tY xs)
 |.tup xs=>.tuple (tY xs)
noncomputable def tY:List PV->List PyData
 |[]=>[]
 |x ::xs=>dOf x ::tY xs
end
mutual
theorem C3:∀ x y:PV,PyData.eqv (dOf x) (dOf y)=fg x y
 |.non,y=>by cases y<;>simp[dOf,PyData.eqv,fg]
 |.bl a,y=>by cases y<;>simp[dOf,PyData.eqv,fg]
 |.int a,y=>by cases y<;>simp[dOf,PyData.eqv,fg]
 |.str a,y=>by cases y<;>simp[dOf,PyData.eqv,fg]
 |.lst xs,y=>by cases y<;>simp[dOf,PyData.eqv,fg,w9 xs]
 |.tup xs,y=>by cases y<;>simp[dOf,PyData.eqv,fg,w9 xs]
theorem w9:∀ xs ys:List PV,PyData.eqvAll (tY xs) (tY ys)=qe xs ys
 |[],ys=>by cases ys<;>simp[tY,PyData.eqvAll,qe]
 |x ::xs,ys=>by cases ys<;>simp[tY,PyData.eqvAll,qe,C3 x,w9 xs]
end
mutual
theorem Fp:∀(x:PV) (n:Nat),qf x n=true->(dOf x).canLay0=true /\ (dOf x).depth<=n
 |.non,n,h=>by simp[dOf,PyData.canLay0,PyData.depth]
 |.bl a,n,h=>by simp[dOf,PyData.canLay0,PyData.depth]
 |.int a,n,h=>by simp[dOf,PyData.canLay0,PyData.depth]
 |.str a,n,h=>by simp[dOf,PyData.canLay0,PyData.depth];exact h
 | .lst xs,n,h=>by
   cases n with
   |zero=>simp[qf]at h
   | succ n=>
     have:=yQ xs n (by simpa [qf]using h);simp[dOf,PyData.canLay0,PyData.depth]
     exact⟨this.1,by omega⟩
 | .tup xs,n,h=>by
   cases n with
   |zero=>simp[qf]at h
   | succ n=>
     have:=yQ xs n (by simpa [qf]using h);simp[dOf,PyData.canLay0,PyData.depth]
     exact⟨this.1,by omega⟩
theorem yQ:∀(xs:List PV) (n:Nat),tK xs n=true->PyData.canLayAll0 (tY xs)=true /\ PyData.depthAll (tY xs)<=n
 |[],n,h=>by simp[tY,PyData.canLayAll0,PyData.depthAll]
 | x ::xs,n,h=>by
   simp[tK]at h;have h1:=Fp x n h.1;have h2:=yQ xs n h.2;simp[tY,PyData.canLayAll0,PyData.depthAll]
   exact⟨⟨h1.1,h2.1⟩,by omega⟩
end
section
variable{X:Cx}{pins:List (Addr×Obj)}{σ:St}{H:Hp}{s:Shared}
mutual
theorem wx(I:Inv X pins σ H s):∀(x:PV) (v:V) (u:Value),Rep X.K H x v->RelV v u->∃ as,Reads s.heap u (dOf x) as
 |.non,v,u,h,r=>by unfold Rep at h;subst h;cases r;exact⟨_,.none⟩
 |.bl b,v,u,h,r=>by unfold Rep at h;subst h;cases r;exact⟨_,.bool b⟩
 |.int i,v,u,h,r=>by unfold Rep at h;subst h;obtain⟨t,rfl⟩:=r;exact⟨_,.int i t⟩
 |.str x,v,u,h,r=>by unfold Rep at h;subst h;obtain⟨t,rfl⟩:=r;exact⟨_,.str x t⟩
 | .lst xs,v,u,h,r=>by
   unfold Rep at h;obtain⟨p,vs,rfl,hq,hr⟩:=h;cases r;obtain⟨its,rv,pl,hz⟩:=I.list hq;obtain⟨as,ra⟩:=qt I xs vs its hr rv;obtain⟨o,e,c,n,d⟩:=pl.isList
   exact⟨_,.list (xs:=tY xs) e c d (by simpa using ra)⟩
 | .tup xs,v,u,h,r=>by
   unfold Rep at h;obtain⟨p,vs,rfl,hq,hr⟩:=h;cases r;obtain⟨its,rv,pl,hz⟩:=I.tuple hq;obtain⟨as,ra⟩:=qt I xs vs its hr rv;obtain⟨o,e,c,n,d⟩:=pl
   exact⟨_,.tuple (xs:=tY xs) e c d (by simpa using ra)⟩
theorem qt(I:Inv X pins σ H s):∀(xs:List PV) (vs:List V) (us:List Value),b0 X.K H xs vs->Vals vs us->∃ as,ReadsAll s.heap us (tY xs) as
 |[],vs,us,h,r=>by rw[h.nil_inv]at r;cases r;exact⟨_,.nil⟩
 | x ::xs,vs,us,h,r=>by
   obtain⟨v,t,rfl,h1,h2⟩:=h.cons_inv
   cases r with
   | cons r1 r2=>
     obtain⟨as,ra⟩:=wx I x _ _ h1 r1;obtain⟨bs,rb⟩:=qt I xs _ _ h2 r2
     exact⟨_,.cons ra rb⟩
end
noncomputable def MF(K:PySem.W.Frag)(A:Around)(neg:Bool):R2:=fun v u H Q=>∃ x y,Rep K H x v /\ Rep K H y u /\ (qf x 64&&qf y 64)=true /\ A.units+64<cLine /\ Q (.bl (if neg then !fg x y else fg x y)) H
theorem xV{x:PV}(h:qf x 64=true):shaped (dOf x)=true:=by
 have:=Fp x 64 h;unfold shaped;simp[this]
theorem Eu:OpR X (compareOp .NotEq) (MF X.K X.A true):=by
 intro pins s σ H v u a b Q I rx ry h;obtain⟨x,y,h1,h2,ok,hu,q⟩:=h;rw[Bool.and_eq_true]at ok;obtain⟨as,ra⟩:=wx I x v a h1 rx;obtain⟨bs,rb⟩:=wx I y u b h2 ry;refine ne_dataH ra rb (xV ok.1) (xV ok.2) hu ⟨.bl _,H,I,rfl,?_⟩;rw[C3];exact q
end
section
variable{K:PySem.W.Frag}{S H:Hp}
theorem RdV.rep{x:PV}{v:V}(h:RdV K S H x v)(s:aK S H):Rep K H x v:=by
 cases x with
 |lst xs=>obtain⟨p,vs,e,q,r⟩:=h;unfold Rep;exact⟨p,vs,e,q,r.mono s⟩
 |non=>exact Rep.mono s h
 |bl b=>exact Rep.mono s h
 |int i=>exact Rep.mono s h
 |str x=>exact Rep.mono s h
 |tup xs=>exact Rep.mono s h
theorem E6{A:Around}(hu:A.units+64<cLine):JR K (MF K A true) zX:=by
 intro S H x y v u rr Q I hx hy e k;unfold zX at e;split at e
 . rename_i ok;cases e
   exact⟨x,y,hx.rep I,hy.rep I,ok,hu,k _ S H (bj.refl I) o8⟩
 . cases e
end
section
variable{X:Cx}{K:PySem.W.Frag}{S H:Hp}
theorem vR{x:PV}{v:V}(h:Rep K H x v)(f:dQ x=true):rS v=true:=by
 cases x with
 |lst xs=>cases f
 |tup xs=>cases f
 |non=>unfold Rep at h;subst h;rfl
 |bl b=>unfold Rep at h;subst h;rfl
 |int b=>unfold Rep at h;subst h;rfl
 |str b=>unfold Rep at h;subst h;rfl
theorem HK{x y:PV}{v u:V}(h:Rep K H x v)(k:Rep K H y u)(f:dQ x=true)(g:dQ y=true):eqV u v=fg y x:=by
 cases x<;>first|(cases f;done)|skip
 all_goals(unfold Rep at h;subst h;cases y<;>first|(cases g;done)|(unfold Rep at k;subst k;simp[eqV,fg]))
theorem yg{xs:List PV}{vs:List V}(h:b0 K H xs vs)(f:xs.all dQ=true):vs.all rS=true:=by
 induction xs generalizing vs with
 |nil=>rw[h.nil_inv];rfl
 | cons x xs ih=>
   obtain⟨v,r,rfl,h1,h2⟩:=h.cons_inv
   rw[List.all_cons,Bool.and_eq_true]at f ⊢
   exact⟨vR h1 f.1,ih h2 f.2⟩
theorem AU{x:PV}{v:V}{xs:List PV}{vs:List V}(hx:Rep K H x v)(g:dQ x=true)(h:b0 K H xs vs)(f:xs.all dQ=true):inV v vs=xs.any fun y=>fg y x:=by
 induction xs generalizing vs with
 |nil=>rw[h.nil_inv];rfl
 | cons y xs ih=>
   obtain⟨u,r,rfl,h1,h2⟩:=h.cons_inv;rw[List.all_cons,Bool.and_eq_true]at f;have:=ih h2 f.2
   unfold inV at this ⊢
   rw[List.any_cons,List.any_cons,this,HK hx h1 g f.1]
theorem zU{x:PV}{xs:List PV}(g:dQ x=false)(f:xs.all dQ=true):(xs.any fun y=>fg y x)=false:=by
 induction xs with
 |nil=>rfl
 | cons y xs ih=>
   rw[List.all_cons,Bool.and_eq_true]at f;rw[List.any_cons,ih f.2,Bool.or_false];have f1:=f.1
   cases y<;>first|(cases f1;done)|(cases x<;>first|(cases g;done)|simp[fg])
theorem yG{α:Type}(l:List α):(l.any fun _=>false)=false:=by induction l<;>simp_all
theorem tH{A:Around}{s:Shared}{pins:List (Addr×Obj)}{σ:St}(I:Inv X pins σ H s)(hu:A.units<cLine){x:PV}{v:V}{a:Value}(hx:Rep X.K H x v)(ra:RelV v a)(g:dQ x=false):
  ∀{xs:List PV} {vs:List V} {us:List Value},b0 X.K H xs vs->Vals vs us->xs.all dQ=true->∀ u∈us,EqAt A s u a false:=by
 intro xs
 induction xs with
 |nil=>intro vs us h r _ u hu;rw[h.nil_inv]at r;cases r;cases hu
 | cons y xs ih=>
   intro vs us h r f u hm;obtain⟨w,t,rfl,h1,h2⟩:=h.cons_inv;rw[List.all_cons,Bool.and_eq_true]at f
   cases r with
   | cons r1 r2=>
     rcases List.mem_cons.mp hm with rfl|hm
     . cases x with
       |non=>cases g
       |bl b=>cases g
       |int b=>cases g
       |str b=>cases g
       | lst zs=>
         unfold Rep at hx;obtain⟨p,us',rfl,hq,_⟩:=hx;cases ra;obtain⟨its,_,pl,_⟩:=I.list hq
         cases y with
         |non=>unfold Rep at h1;subst h1;cases r1;exact EqAt.none_list pl.isList hu
         |bl b=>unfold Rep at h1;subst h1;cases r1;exact EqAt.bool_list b pl.isList hu
         |int b=>unfold Rep at h1;subst h1;obtain⟨t',rfl⟩:=r1;exact EqAt.int_list b t' pl.isList hu
         |str b=>unfold Rep at h1;subst h1;obtain⟨t',rfl⟩:=r1;exact EqAt.str_list b t' pl.isList hu
         |lst _=>cases f.1
         |tup _=>cases f.1
       | tup zs=>
         unfold Rep at hx;obtain⟨p,us',rfl,hq,_⟩:=hx;cases ra;obtain⟨its,_,pl,_⟩:=I.tuple hq
         cases y with
         |non=>unfold Rep at h1;subst h1;cases r1;exact EqAt.none_tuple pl hu
         |bl b=>unfold Rep at h1;subst h1;cases r1;exact EqAt.bool_tuple b pl hu
         |int b=>unfold Rep at h1;subst h1;obtain⟨t',rfl⟩:=r1;exact EqAt.int_tuple b t' pl hu
         |str b=>unfold Rep at h1;subst h1;obtain⟨t',rfl⟩:=r1;exact EqAt.str_tuple b t' pl hu
         |lst _=>cases f.1
         |tup _=>cases f.1
     . exact ih h2 r2 f.2 u hm
noncomputable def FD(K:PySem.W.Frag)(A:Around)(neg:Bool):R2:=fun v u H Q=>∃ x ys p vs,Rep K H x v /\ u=.ref p /\ (SqL K H p vs \/ SqT K H p vs) /\ b0 K H ys vs /\ ys.all dQ=true /\ A.units+64<cLine /\ Q (.bl (if neg then !(ys.any fun y=>fg y x)else ys.any fun y=>fg y x)) H
theorem la:OpR X (compareOp .In) (FD X.K X.A false):=by
 intro pins s σ H v u a b Q I rx ry h;obtain⟨x,ys,p,vs,hx,rfl,hq,hr,hf,hu,q⟩:=h
 cases g:dQ x with
 |true=>exact DE pins s σ H v _ a b Q I rx ry ⟨p,vs,rfl,hq,vR hx g,yg hr hf,by rw[AU hx g hr hf];exact q⟩
 | false=>
   rw[zU g hf]at q;cases ry
   rcases hq with hq|hq
   . obtain⟨its,r,pl,hz⟩:=I.list hq;refine SeqAt.in_listAt (fun _=>false) pl.isList (fun w hw=>tH I (by show X.A.units+1<cLine;omega) hx rx g hr r hf w (by simpa using hw)) ⟨.bl _,H,I,rfl,?_⟩;rw[show(its.toArray.any fun _=>false)=false by simp[yG]];exact q
   . obtain⟨its,r,pl,hz⟩:=I.tuple hq;refine SeqAt.in_tupleAt (fun _=>false) pl (fun w hw=>tH I (by show X.A.units+1<cLine;omega) hx rx g hr r hf w (by simpa using hw)) ⟨.bl _,H,I,rfl,?_⟩;rw[show(its.toArray.any fun _=>false)=false by simp[yG]];exact q
theorem xH:OpR X (compareOp .NotIn) (FD X.K X.A true):=by
 intro pins s σ H v u a b Q I rx ry h;obtain⟨x,ys,p,vs,hx,rfl,hq,hr,hf,hu,q⟩:=h
 cases g:dQ x with
 |true=>exact za pins s σ H v _ a b Q I rx ry ⟨p,vs,rfl,hq,vR hx g,yg hr hf,by rw[AU hx g hr hf];exact q⟩
 | false=>
   rw[zU g hf]at q;cases ry
   rcases hq with hq|hq
   . obtain⟨its,r,pl,hz⟩:=I.list hq;refine SeqAt.notIn_listAt (fun _=>false) pl.isList (fun w hw=>tH I (by show X.A.units+1<cLine;omega) hx rx g hr r hf w (by simpa using hw)) ⟨.bl _,H,I,rfl,?_⟩;rw[show(its.toArray.any fun _=>false)=false by simp[yG]];exact q
   . obtain⟨its,r,pl,hz⟩:=I.tuple hq;refine SeqAt.notIn_tupleAt (fun _=>false) pl (fun w hw=>tH I (by show X.A.units+1<cLine;omega) hx rx g hr r hf w (by simpa using hw)) ⟨.bl _,H,I,rfl,?_⟩;rw[show(its.toArray.any fun _=>false)=false by simp[yG]];exact q
theorem Co{A:Around}{neg:Bool}{x y:PV}{v u:V}{b:Bool}{Q:VK}(hu:A.units+64<cLine)(I:aK S H)(hx:RdV K S H x v)(hy:RdV K S H y u)(e:kA x y=some b)(k:∀ z S' H',bj S H S' H'->nR K H S' H' (.sh (.bl (if neg then !b else b))) z->Q z H'):FD K A neg v u H Q:=by
 cases y with
 | tup ys=>
   simp only[kA]at e
   by_cases hf:ys.all dQ=true
   . rw[if_pos hf]at e;cases e;obtain⟨p,vs,rfl,hq,hr⟩:=m9 hy
     exact⟨x,ys,p,vs,hx.rep I,rfl,.inr (aK.tup I hq),hr.mono I,hf,hu,k _ S H (bj.refl I) o8⟩
   . rw[if_neg hf]at e;cases e
 | lst ys=>
   simp only[kA]at e
   by_cases hf:ys.all dQ=true
   . rw[if_pos hf]at e;cases e;obtain⟨p,vs,rfl,hq,hr⟩:=iJ hy
     exact⟨x,ys,p,vs,hx.rep I,rfl,.inl hq,hr.mono I,hf,hu,k _ S H (bj.refl I) o8⟩
   . rw[if_neg hf]at e;cases e
 |_=>simp only[kA]at e;cases e
theorem pz{A:Around}(hu:A.units+64<cLine):JR K (FD K A false) gIn:=by
 intro S H x y v u rr Q I hx hy e k;obtain⟨b,e1,e2⟩:=Option.map_eq_some_iff.mp e;subst e2;exact Co hu I hx hy e1 k
theorem zG{A:Around}(hu:A.units+64<cLine):JR K (FD K A true) oB:=by
 intro S H x y v u rr Q I hx hy e k;obtain⟨b,e1,e2⟩:=Option.map_eq_some_iff.mp e;subst e2;exact Co hu I hx hy e1 k
end
end L2.P
namespace L2.P
open PySem PySem.Spec PyProof.Rows L2 L2.E
section
variable{K:PySem.W.Frag}{cls:String->Option Addr}{W:XW}{Av G S₀ S S' H H' B B':Hp}{ρ:ag}{σ:St}{Q:VK}
noncomputable abbrev g2(K:PySem.W.Frag)(i j:Nat):TG:=Kn K 2 (Cy (mm i) (Cy (mm j) LH))
theorem BB{mb:ag->OS}{D:Ends}{N:St->Hp->Prop}(hb:JS K cls W tb mb)(I:SR K cls Av G S₀ ρ σ S H)(hx:Rep K S x v)(hy:Rep K S y u)(ht:SqT K H t [v,u])
  (p:jN K cls W Av G S₀ S D (pb i j mb (.tup [x,y] ::xs) ρ)) (hN:∀ ρ' σ' S' H',SR K cls Av G S₀ ρ' σ' S' H'->aK S S'->jN K cls W Av G S₀ S' D (pb i j mb xs ρ')->N σ' H'):
  g2 K i j (.ref t) σ H fun σ2 H2=>tb { D with nx:=N,ct:=N,bk:=D.nx } σ2 H2:=by
 refine⟨t,_,rfl,ht,rfl,_,_,rfl,_,_,rfl,rfl,?_⟩
 refine hb Av G S₀ _ _ S H _ ((I.Ao hx).Ao hy) ?_;unfold pb at p
 cases e:mb ((ρ.set i (some (.sh x))).set j (some (.sh y)))with
 |nx ρ'=>rw[e]at p;exact fun σ' S' H' I' s'=>hN ρ' σ' S' H' I' s' (p.back s')
 |ct ρ'=>rw[e]at p;exact fun σ' S' H' I' s'=>hN ρ' σ' S' H' I' s' (p.back s')
 |bk ρ'=>rw[e]at p;exact p
 |rt ρ' r=>rw[e]at p;exact p
 |exc ρ' c fs=>rw[e]at p;exact p
 |bad=>rw[e]at p;exact p
theorem BN(xs:List PV):∀(k n:Nat) (y:PV),xs[k]?=some y->uY (n+k) (xs.drop k)=.tup [.int ((n+k:Nat):Int),y] ::uY (n+(k+1)) (xs.drop (k+1)):=by
 intro k n y hy
 have hk:k<xs.length:=(List.getElem?_eq_some_iff.mp hy).1
 rw[List.drop_eq_getElem_cons hk]
 have:xs[k]=y:=(List.getElem?_eq_some_iff.mp hy).2
 rw[this];rfl
theorem IL{ml:ag->OE}{mb:ag->OS}(hl:JE K cls W tl ml)(hb:JS K cls W tb mb):JS K cls W (F4 (Gi K (jx tl mG)) (g2 K i j) tb) (CC i j ml mb):=by
 intro Av G S₀ ρ σ S H D I p;refine hl Av G S₀ ρ σ S H _ I ?_;unfold CC at p
 cases em:ml ρ with
 |exc c fs=>rw[em]at p;exact fun a C S' H' w x=>p a C σ S' H' (I.grow w) w.s x
 |bad=>rw[em]at p;exact p
 | ok r=>
   rw[em]at p;intro v S1 H1 w1 r1;simp only[OE.cy]at p
   cases ei:BH r with
   |none=>rw[ei]at p;exact p.elim
   | some xs=>
     rw[ei]at p
     have es:mK r=some (.lst xs):=by
      cases r with
      |sh y=>cases y<;>cases ei<;>rfl
      |fr ys=>cases ei;rfl
      |al ys=>cases ei
     obtain⟨S2,w2,s2,rx⟩:=r1.share w1 es;have I2:=I.grow w2;unfold Rep at rx;obtain⟨a,vs,rfl,hq,hr⟩:=rx
     show ∃ a',[V.ref a]=[V.ref a'] /\ _
     refine⟨a,rfl,⟨vs,aK.seq I2.sh hq⟩,?_⟩
     refine ER (xs:=vs) (fun k σ' H'=>∃ ρ' S',SR K cls Av G S₀ ρ' σ' S' H' /\ aK S2 S' /\ jN K cls W Av G S₀ S' D (pb i j mb (uY (0+k) (xs.drop k)) ρ'))
      ⟨ρ,S2,I2,aK.refl _,p.back w2.s⟩ ?_ ?_ ?_
     . rintro k σ' H' _ ⟨ρ',S',I',s',_⟩
       exact aK.seq (s'.trans I'.sh) hq
     . rintro k x σ' H' t hx ⟨ρ',S',I',s',p'⟩ ht
       obtain⟨y,hy,ry⟩:=hr.Nc hx;rw[BN xs k 0 y hy]at p'
       have w3:bj S' H' S' (upd H' t (.tup [.int k,x])):=bj.heap I'.sh ht
       refine BB hb (I'.grow w3) (x:=.int ((0+k:Nat):Int)) (v:=.int k) (by unfold Rep;rw[Nat.zero_add]) (Rep.mono s' ry) (SqT.new bL) p' fun ρ2 σ2 S3 H3 I3 s3 p3=>⟨ρ2,S3,I3,s'.trans s3,p3⟩
     . rintro σ' H' ⟨ρ',S',I',s',p'⟩
       rw[List.drop_of_length_le (by rw[hr.length];exact Nat.le_refl _)]at p';exact p' σ' S' H' I' (aK.refl _)
end
end L2.P
namespace L2.E
open PySem PySem.Spec PyProof.Rows L2
theorem HP{X:Cx}(hg:Gl X "enumerate")(hm:X.mg "enumerate" = none)(ha:QA X [a] ta)(hs:starEach [a] X.env=[(false,eval a X.env)]:=by rfl):
  QI X (.Tuple elts k tp) (.Call (.Name "enumerate" p) [a] [] pos) (Gi X.K ta):=⟨IM hg hm ha.out hs⟩
structure QGs(X:Cx)(es:List Expr)(t:TGs):Prop where
 out:PGs X es t
theorem Hn:QGs X [] LH:=⟨ID⟩
theorem zK{X:Cx}(h1:QG X e t)(h2:QGs X es u)
  (hs:(assignEach (e ::es) X.env).map (·.2)=assign e X.env ::(assignEach es X.env).map (·.2):=by rfl):QGs X (e ::es) (Cy t u):=⟨EB h1.out h2.out hs⟩
theorem LB{X:Cx}(hc:X.calm=true)(h:QGs X es t)
  (hn:(assignEach es X.env).length=n:=by rfl) (hst:(assignEach es X.env).findIdx? (·.1)=none:=by rfl):QG X (.Tuple es k pos) (Kn X.K n t):=⟨LC hc h.out hn hst⟩
end L2.E
namespace L2.P
open PySem PySem.Spec PyProof.Rows L2 L2.E
section
variable{K:PySem.W.Frag}{cls:String->Option Addr}{W:XW}{Av G S₀ S S' H H' B B':Hp}{ρ:ag}{σ:St}{Q:VK}{F:Nat->List Addr}
theorem bC.length{ts:List OV}{vs:List V}(h:bC K cls S H ts vs f):vs.length=ts.length:=by
 induction ts generalizing vs f with
 |nil=>unfold bC at h;rw[h.1];rfl
 | cons t ts ih=>
   unfold bC at h;obtain⟨v,r,f1,f2,rfl,_,_,h2⟩:=h;simp[ih h2]
theorem bC.cons_inv(h:bC K cls S H (t ::ts) vs fp):∃ v r f1 f2,vs=v ::r /\ fp=f1++f2 /\ bz K cls S H t v f1 /\ bC K cls S H ts r f2:=by unfold bC at h;exact h
theorem bC.cons(h:bz K cls S H t v f1)(r:bC K cls S H ts vs f2):bC K cls S H (t ::ts) (v ::vs) (f1++f2):=by unfold bC;exact⟨v,vs,f1,f2,rfl,rfl,h,r⟩
theorem bC.nil:bC K cls S H [] [] []:=by unfold bC;exact⟨rfl,rfl⟩
theorem bC.append(h:bC K cls S H ts vs f)(k:bC K cls S H us ws g):bC K cls S H (ts++us) (vs++ws) (f++g):=by
 induction ts generalizing vs f with
 |nil=>unfold bC at h;rw[h.1,h.2];exact k
 | cons t ts ih=>
   obtain⟨v,r,f1,f2,rfl,rfl,h1,h2⟩:=h.cons_inv;have:=bC.cons h1 (ih h2);rw[List.append_assoc];exact this
theorem bC.shs{xs:List PV}(h:b0 K S xs vs):bC K cls S H (xs.map .sh) vs []:=by
 induction xs generalizing vs with
 |nil=>rw[h.nil_inv];exact .nil
 | cons x xs ih=>
   obtain⟨v,r,rfl,h1,h2⟩:=h.cons_inv;exact bC.cons (f1:=[]) (by unfold bz;exact⟨rfl,h1⟩) (ih h2)
theorem bC.flat(e:xg ts=some xs)(h:bC K cls S H ts vs f):b0 K S xs vs /\ f=[]:=by
 induction ts generalizing xs vs f with
 |nil=>cases e;unfold bC at h;rw[h.1,h.2];exact⟨.nil,rfl⟩
 | cons t ts ih=>
   cases t with
   | sh x=>
     obtain⟨ys,e1,e2⟩:=Option.map_eq_some_iff.mp e;subst e2;obtain⟨v,r,f1,f2,rfl,rfl,h1,h2⟩:=h.cons_inv;unfold bz at h1;obtain⟨h3,h4⟩:=ih e1 h2
     exact⟨.cons h1.2 h3,by rw[h1.1,h4];rfl⟩
   |ol _=>cases e
   |ob _ _ _=>cases e
   |di _=>cases e
   |dt _=>cases e
theorem bC.at{ts:List OV}{vs:List V}{f:List Addr}(h:bC K cls S H ts vs f)(e:ts[k]?=some u):
  ∃ w f1 rest,vs[k]?=some w /\ bz K cls S H u w f1 /\ f.Perm (f1++rest) /\
    ∀ S' H' u' w' f',aK S S'->bz K cls S' H' u' w' f'->(∀ a∈rest,∀ o,H a=some o->H' a=some o)->∃ g,bC K cls S' H' (ts.set k u') (vs.set k w') g /\ g.Perm (f'++rest):=by
 induction ts generalizing vs f k with
 |nil=>simp at e
 | cons t ts ih=>
   obtain⟨v,r,f1,f2,rfl,rfl,h1,h2⟩:=h.cons_inv
   cases k with
   | zero=>
     simp at e;subst e
     refine⟨v,f1,f2,rfl,h1,List.Perm.refl _,fun S' H' u' w' f' s r' g=>?_⟩
     exact⟨f'++f2,bC.cons r' (h2.mono s g),List.Perm.refl _⟩
   | succ k=>
     simp at e;obtain⟨w,g1,rest,e1,r1,p1,c1⟩:=ih h2 e
     refine⟨w,g1,f1++rest,by simpa using e1,r1,?_,fun S' H' u' w' f' s r' g=>?_⟩
     . have:(f1++f2).Perm (f1++(g1++rest)):=List.Perm.append_left f1 p1
       refine this.trans ?_;rw[<- List.append_assoc,<- List.append_assoc];exact List.Perm.append_right rest List.perm_append_comm
     . obtain⟨g2,r2,p2⟩:=c1 S' H' u' w' f' s r' fun a ha=>g a (List.mem_append_right _ ha)
       refine⟨f1++g2,bC.cons (h1.mono s fun a ha=>g a (List.mem_append_left _ ha)) r2,?_⟩
       refine(List.Perm.append_left f1 p2).trans ?_
       rw[<- List.append_assoc,<- List.append_assoc];exact List.Perm.append_right rest List.perm_append_comm
theorem Cu{ts:List OV}(h:qQ ks ts f=some u):∃ k,ts[k]?=some u /\ ks[k]?=some f /\ (∀ u',xo ks ts f u'=ts.set k u') /\ ∀{α:Type} (us:List (Str×α)),us.map (·.1)=ks->us.lookup f=(us.map (·.2))[k]?:=by
 induction ks generalizing ts with
 |nil=>simp[qQ]at h
 | cons g ks ih=>
   cases ts with
   |nil=>simp[qQ]at h
   | cons t ts=>
     unfold qQ at h;split at h
     . rename_i e;subst e;cases h
       refine⟨0,rfl,rfl,fun u'=>by simp[xo],fun us eu=>?_⟩
       cases us with
       |nil=>cases eu
       | cons q us=>
         simp at eu;obtain⟨a,b⟩:=q;simp at eu;rw[<- eu.1];simp[List.lookup]
     . rename_i ne;obtain⟨k,e1,e2,e3,e4⟩:=ih h
       refine⟨k+1,by simpa using e1,by simpa using e2,fun u'=>by simp[xo,ne,e3],fun us eu=>?_⟩
       cases us with
       |nil=>cases eu
       | cons q us=>
         obtain⟨a,b⟩:=q;simp at eu
         have:(f==a)=false:=by rw[eu.1];simpa using Ne.symm ne
         simp[List.lookup,this,e4 us eu.2]
noncomputable def ya(H:Hp):Stp->V->V->Prop
 |.ix k,v,w=>∃ p vs,v=.ref p /\ H p=some (.lst vs) /\ vs[k]?=some w
 |.fd f,v,w=>∃ p C dx us,v=.ref p /\ H p=some (.ins C dx us) /\ us.lookup f=some w
noncomputable def kH(H:Hp):V->List Stp->V->Prop
 |v,[],w=>w=v
 |v,s ::π,w=>∃ u,ya H s v u /\ kH H u π w
theorem ya.inj(h:ya H s v w)(k:ya H s v w'):w=w':=by
 cases s with
 | ix n=>
   obtain⟨p,vs,rfl,e1,e2⟩:=h;obtain⟨p',vs',e3,e4,e5⟩:=k;cases e3;rw[e1]at e4;cases e4;rw[e2]at e5;cases e5;rfl
 | fd f=>
   obtain⟨p,C,dx,us,rfl,e1,e2⟩:=h;obtain⟨p',C',dx',us',e3,e4,e5⟩:=k;cases e3;rw[e1]at e4;cases e4;rw[e2]at e5;cases e5;rfl
theorem kH.inj:∀{v w w':V},kH H v π w->kH H v π w'->w=w':=by
 induction π with
 |nil=>intro v w w' h k;rw[h,k]
 | cons s π ih=>
   rintro v w w' ⟨u,h1,h2⟩ ⟨u',k1,k2⟩
   have:=h1.inj k1;subst this;exact ih h2 k2
theorem kH.snoc:∀{v w u:V},kH H v π w->ya H s w u->kH H v (π++[s]) u:=by
 induction π with
 |nil=>intro v w u h k;rw[h]at k;exact⟨u,k,rfl⟩
 | cons t π ih=>
   rintro v w u ⟨x,h1,h2⟩ k
   exact⟨x,h1,ih h2 k⟩
theorem kH.mono(g:aK H H'):∀{v w:V},kH H v π w->kH H' v π w:=by
 induction π with
 |nil=>intro v w h;exact h
 | cons t π ih=>
   rintro v w ⟨x,h1,h2⟩
   refine⟨x,?_,ih h2⟩
   cases t with
   |ix k=>obtain⟨p,vs,e,e1,e2⟩:=h1;exact⟨p,vs,e,g _ _ e1,e2⟩
   |fd f=>obtain⟨p,C,dx,us,e,e1,e2⟩:=h1;exact⟨p,C,dx,us,e,g _ _ e1,e2⟩
theorem bz.step{t u:OV}{fp:List Addr}(h:bz K cls S H t v fp)(e:t.at1 s=some u):
  ∃ w f1 rest,ya H s v w /\ bz K cls S H u w f1 /\ fp.Perm (f1++rest) /\
    ∀ S' H' u' f',aK S S'->bz K cls S' H' u' w f'->(∀ a∈rest,∀ o,H a=some o->H' a=some o)->∃ g,bz K cls S' H' (t.gn s u') v g /\ g.Perm (f'++rest):=by
 cases t with
 |sh x=>cases s<;>cases e
 |di x=>cases s<;>cases e
 |dt x=>cases s<;>cases e
 | ol ts=>
   cases s with
   |fd f=>cases e
   | ix k=>
     unfold bz at h;obtain⟨p,vs,f,rfl,hp,rfl,r⟩:=h;obtain⟨w,f1,rest,e1,r1,p1,c1⟩:=r.at e
     refine⟨w,f1,p ::rest,⟨p,vs,rfl,hp,e1⟩,r1,?_,fun S' H' u' f' s r' g=>?_⟩
     . exact(List.Perm.cons p p1).trans (List.perm_middle.symm)
     . obtain⟨g2,r2,p2⟩:=c1 S' H' u' w f' s r' fun a ha=>g a (by simp[ha])
       refine⟨p ::g2,?_,(List.Perm.cons p p2).trans List.perm_middle.symm⟩
       rw[lZ e1]at r2;unfold OV.gn bz
       exact⟨p,vs,g2,rfl,g p (by simp) _ hp,rfl,r2⟩
 | ob c ks ts=>
   cases s with
   |ix k=>cases e
   | fd f=>
     unfold bz at h;obtain⟨p,C,dx,us,ff,rfl,hc,hp,hd,hk,rfl,r⟩:=h;obtain⟨k,e1,e2,e3,e4⟩:=Cu e;obtain⟨w,f1,rest,q1,r1,p1,c1⟩:=r.at e1
     refine⟨w,f1,p ::dx ::rest,⟨p,C,dx,us,rfl,hp,by rw[e4 us hk];exact q1⟩,r1,?_,fun S' H' u' f' s r' g=>?_⟩
     . exact((List.Perm.cons p ((List.Perm.cons dx p1).trans List.perm_middle.symm))).trans List.perm_middle.symm
     . obtain⟨g2,r2,p2⟩:=c1 S' H' u' w f' s r' fun a ha=>g a (by simp[ha])
       refine⟨p ::dx ::g2,?_,(List.Perm.cons p ((List.Perm.cons dx p2).trans List.perm_middle.symm)).trans List.perm_middle.symm⟩
       rw[lZ q1]at r2;unfold OV.gn bz
       exact⟨p,C,dx,us,g2,rfl,hc,g p (by simp) _ hp,g dx (by simp) _ hd,hk,rfl,by rw[e3];exact r2⟩
theorem bz.focus:∀{t u:OV} {v:V} {fp:List Addr},bz K cls S H t v fp->t.get π=some u ->
  ∃ w f1 rest,kH H v π w /\ bz K cls S H u w f1 /\ fp.Perm (f1++rest) /\
    ∀ S' H' u' f',aK S S'->bz K cls S' H' u' w f'->(∀ a∈rest,∀ o,H a=some o->H' a=some o)->∃ g,bz K cls S' H' (t.put π u') v g /\ g.Perm (f'++rest):=by
 induction π with
 | nil=>
   intro t u v fp h e;cases e
   exact⟨v,fp,[],rfl,h,by simp,fun S' H' u' f' _ r' _=>⟨f',by unfold OV.put;exact r',by simp⟩⟩
 | cons s π ih=>
   intro t u v fp h e;unfold OV.get at e;obtain⟨t1,e1,e2⟩:=Option.bind_eq_some_iff.mp e;obtain⟨w1,f1,rest1,st,r1,p1,c1⟩:=h.step e1;obtain⟨w,f2,rest2,wk,r2,p2,c2⟩:=ih r1 e2
   refine⟨w,f2,rest2++rest1,⟨w1,st,wk⟩,r2,?_,fun S' H' u' f' s' r' g=>?_⟩
   . rw[<- List.append_assoc];exact p1.trans (List.Perm.append_right rest1 p2)
   . obtain⟨g1,q1,k1⟩:=c2 S' H' u' f' s' r' fun a ha=>g a (List.mem_append_left _ ha)
     obtain⟨g2,q2,k2⟩:=c1 S' H' _ g1 s' q1 fun a ha=>g a (List.mem_append_right _ ha)
     refine⟨g2,?_,?_⟩
     . unfold OV.put;rw[e1];exact q2
     . rw[<- List.append_assoc];exact k2.trans (List.Perm.append_right rest1 k1)
theorem SR.tree(I:SR K cls Av G S₀ ρ σ S H)(e:gB i ρ=some t):∃ v fp,σ[i]?=some (some v) /\ bz K cls S H t v fp:=by
 obtain⟨F,J⟩:=I;unfold gB at e
 cases q:ρ[i]? with
 |none=>rw[q]at e;cases e
 | some o=>
   cases o with
   |none=>rw[q]at e;cases e
   | some s=>
     rw[q]at e;obtain⟨v,e1,r⟩:=J.own i s q
     cases s with
     |tr io t'=>cases e;exact⟨v,_,e1,r.1⟩
     | bo t'=>
       cases e;obtain⟨_,f,r⟩:=r
       exact⟨v,f,e1,r.mono (aK.refl _) fun _ _ _ h=>J.gh _ _ h⟩
     |sh x=>cases e
     |ow xs=>cases e
     |ex c fs=>cases e
noncomputable def JP(K:PySem.W.Frag)(cls:String->Option Addr)(te:TE)(i:Nat)(mp:MP):Prop:=∀ Av G S₀ ρ σ S H Q v0 t π,SR K cls Av G S₀ ρ σ S H->gB i ρ=some t->σ[i]?=some (some v0)->mp ρ=some π->(t.get π).isSome=true ->
 (∀ w S' H',bj S H S' H'->kH H' v0 π w->Q w H')->te σ H Q
theorem aR:JP K cls (AX i) i aI:=by
 intro Av G S₀ ρ σ S H Q v0 t π I e ev ep _ k;cases ep
 exact⟨v0,ev,k v0 S H (bj.refl I.sh) rfl⟩
theorem MW{mk:ag->OE}(hp:JP K cls te i mp)(hk:JE K cls W tk mk):JP K cls (tOp (Iv K) te tk) i (pIx i mp mk):=by
 intro Av G S₀ ρ σ S H Q v0 t π I e ev ep hs k;unfold pIx at ep;rw[e]at ep
 dsimp only at ep
 split at ep
 . rename_i π0 e0;split at ep
   . rename_i ts e1;split at ep
     . rename_i r er;split at ep
       . rename_i n en;obtain⟨j,ej,e2⟩:=Option.map_eq_some_iff.mp ep;subst e2
         refine hp Av G S₀ ρ σ S H _ v0 t π0 I e ev e0 (by rw[e1];rfl) fun w S1 H1 w1 wk=>?_
         refine hk Av G S₀ ρ σ S1 H1 _ (I.grow w1) ?_;rw[er];intro u S2 H2 w2 ru;have I2:=(I.grow w1).grow w2
         have hu:u=.int n:=by have:=ru.rd I2.sh;rw[en]at this;exact dg this
         subst hu;obtain⟨v,fp,ev',ro⟩:=I2.tree e;rw[ev]at ev';cases ev';obtain⟨w',f1,rest,wk',r',_,_⟩:=ro.focus e1;have:=(wk.mono w2.g).inj wk';subst this;unfold bz at r';obtain⟨p,vs,f,rfl,hl,rfl,rs⟩:=r'
         have hj:j<ts.length:=by
          have h1:L2.atI ts n=ts[j]?:=by unfold L2.atI;show(ixP ts.length n).bind _=_;rw[ej];rfl
          unfold ixP at ej;split at ej
          . split at ej
            . cases ej;omega
            . cases ej
          . split at ej
            . cases ej;omega
            . cases ej
         have hjv:j<vs.length:=by rw[rs.length];exact hj
         have hx:vs[j]?=some vs[j]:=by simp[hjv]
         refine⟨p,vs,n,vs[j],rfl,rfl,SqL.new hl,?_,k _ S2 H2 (w1.trans w2) (wk'.snoc ⟨p,vs,rfl,hl,hx⟩)⟩
         unfold L2.atI
         show(ixP vs.length n).bind _=_
         rw[rs.length,ej];exact hx
       . cases ep
     . cases ep
   . cases ep
 . cases ep
theorem JP.sub(hp:JP K cls te i mp)(I:SR K cls Av G S₀ ρ σ S H)(e:subAt i mp ρ=some u)
  (k:∀ w S' H' f,bj S H S' H'->SR K cls Av G S₀ ρ σ S' H'->bz K cls S' H' u w f->Q w H'):te σ H Q:=by
 unfold subAt at e;split at e
 . rename_i t et;split at e
   . rename_i π eπ;obtain⟨v0,fp0,ev,_⟩:=I.tree et
     refine hp Av G S₀ ρ σ S H _ v0 t π I et ev eπ (by rw[e];rfl) fun w S1 H1 w1 wk=>?_
     obtain⟨v,fp,ev',ro⟩:=(I.grow w1).tree et;rw[ev]at ev';cases ev';obtain⟨w',f1,rest,wk',r',_,_⟩:=ro.focus e;have:=wk.inj wk';subst this;exact k w S1 H1 f1 w1 (I.grow w1) r'
   . cases e
 . cases e
theorem zL{ok:String->Bool}(hp:JP K cls te i mp)(ha:∀ c C,cls c=some C->ok c=true->Cls K C /\ ng K C f):JP K cls (K9 K te f) i (pFd i mp f ok):=by
 intro Av G S₀ ρ σ S H Q v0 t π I e ev ep hs k;unfold pFd at ep;split at ep
 . rename_i c ks ts es;split at ep
   . rename_i hok;rw[Bool.and_eq_true]at hok;obtain⟨π0,e0,rfl⟩:=Option.map_eq_some_iff.mp ep
     have e1:t.get π0=some (.ob c ks ts):=by
      unfold subAt at es;rw[e]at es
      dsimp only at es
      rw[e0]at es;exact es
     refine hp Av G S₀ ρ σ S H _ v0 t π0 I e ev e0 (by rw[e1];rfl) fun w S1 H1 w1 wk=>?_
     have I1:=I.grow w1;obtain⟨v,fp,ev',ro⟩:=I1.tree e;rw[ev]at ev';cases ev';obtain⟨w',f1,rest,wk',r',_,_⟩:=ro.focus e1;have:=wk.inj wk';subst this;unfold bz at r';obtain⟨p,C,dx,us,ff,rfl,hcl,hp',hd,hk,rfl,r⟩:=r';obtain⟨a1,a2⟩:=ha c C hcl hok.1
     cases q:qQ ks ts f with
     |none=>rw[q]at hok;cases hok.2
     | some u=>
       obtain⟨n,h1,h2,h3,h4⟩:=Cu q
       have hn:n<(us.map (·.2)).length:=by rw[r.length];exact(List.getElem?_eq_some_iff.mp h1).1
       have hx:us.lookup f=some (us.map (·.2))[n]:=by rw[h4 us hk];exact List.getElem?_eq_getElem hn
       exact⟨p,C,dx,us,_,rfl,hp',a1,a2,hx,k _ S1 H1 w1 (wk'.snoc ⟨p,C,dx,us,rfl,hp',hx⟩)⟩
   . cases ep
 . cases ep
theorem gR(hp:JP K cls te i mp):JE K cls W te (de i mp):=by
 intro Av G S₀ ρ σ S H Q I p;unfold de at p;split at p
 . rename_i x e
   refine hp.sub I e fun w S1 H1 f w1 _ r=>?_
   unfold bz at r;exact p w S1 H1 w1 r.2
 . rename_i ts e;split at p
   . rename_i xs ex
     refine hp.sub I e fun w S1 H1 f w1 _ r=>?_
     unfold bz at r;obtain⟨q,vs,ff,rfl,hq,_,rs⟩:=r;exact p _ S1 H1 w1 ⟨q,vs,rfl,SqL.new hq,(rs.flat ex).1⟩
   . exact p.elim
 . exact p.elim
theorem iu(hp:JP K cls te i mp):JT K cls W (fun σ H Q=>te σ H fun x H'=>∃ k,BW K x H' k /\ Q k H') (dE i mp):=by
 intro Av G S₀ ρ σ S H Q I p;unfold dE at p;split at p
 . rename_i ts e
   refine hp.sub I e fun w S1 H1 f w1 _ r=>?_
   unfold bz at r;obtain⟨q,vs,ff,rfl,hq,_,rs⟩:=r
   refine⟨_,.inl ⟨vs,SqL.new hq,rfl⟩,?_⟩
   have:vs.isEmpty=ts.isEmpty:=by
    have:=rs.length
    cases vs<;>cases ts<;>simp_all
   rw[this];exact p S1 H1 w1
 . exact p.elim
theorem kj(hp:JP K cls te i mp):JE K cls W (tCB (fun xs H Q=>∃ p ys,xs=[.ref p] /\ (SqL K H p ys \/ SqT K H p ys) /\ Q (.int ys.length) H) (jx te mG)) (gJ i mp):=by
 intro Av G S₀ ρ σ S H Q I p;unfold gJ at p;split at p
 . rename_i ts e
   refine hp.sub I e fun w S1 H1 f w1 _ r=>?_
   unfold bz at r;obtain⟨q,vs,ff,rfl,hq,_,rs⟩:=r
   exact⟨q,vs,rfl,.inl (SqL.new hq),p _ S1 H1 w1 (by show Rep K S1 _ _;unfold Rep;rw[rs.length])⟩
 . exact p.elim
end
section
variable{K:PySem.W.Frag}{cls:String->Option Addr}{W:XW}{Av G S₀ S S' H H' B B':Hp}{ρ:ag}{σ:St}{Q:VK}{F:Nat->List Addr}
theorem SRF.part{t u:OV}(J:SRF K cls Av G S₀ ρ σ S H F)(hi:ρ[i]?=some (some (.tr io t)))(hv:σ[i]?=some (some v0))(e:t.get π=some u):
  ∃ w f1 rest,kH H v0 π w /\ bz K cls S H u w f1 /\ (F i).Perm (f1++rest) /\ (f1++rest).Nodup /\ (∀ a∈f1,G a=none /\ S a=none) /\
    ∀ S' H' u' f',aK S S'->aK S' H'->aK G H'->(∀ b,S' b≠none->S₀ b≠none \/ G b=none)->bz K cls S' H' u' w f'->f'.Nodup->(∀ a∈f',a∈f1 \/ H a=none)->(∀ a∈f',S' a=none) ->
      (∀ a o,a∉f1->H a=some o->H' a=some o)->(∀ a,S' a≠none->S a≠none \/ H a=none \/ a∈f1) ->
      ∃ g,SRF K cls Av G S₀ (ρ.set i (some (.tr io (t.put π u')))) σ S' H' (pK F i g) /\ g.Perm (f'++rest):=by
 obtain⟨v,ev,ro,nd,gs,hio⟩:=J.own i _ hi;rw[hv]at ev;cases ev;obtain⟨w,f1,rest,wk,r1,p1,c1⟩:=ro.focus e
 have nd1:(f1++rest).Nodup:=p1.nodup_iff.mp nd
 have in1:∀ a,a∈f1->a∈F i:=fun a ha=>p1.mem_iff.mpr (List.mem_append_left _ ha)
 have inr:∀ a,a∈rest->a∈F i:=fun a ha=>p1.mem_iff.mpr (List.mem_append_right _ ha)
 have off1:∀ a,a∈rest->a∉f1:=fun a ha hb=>(List.nodup_append.mp nd1).2.2 a hb a ha rfl
 refine⟨w,f1,rest,wk,r1,p1,nd1,fun a ha=>gs a (in1 a ha),fun S' H' u' f' s sh gh new r' nd' fr nS keep nw=>?_⟩
 obtain⟨g,rg,pg⟩:=c1 S' H' u' f' s r' fun a ha o h=>keep a o (off1 a ha) h
 have noS:∀ j a,a∈F j->a∉f1->S' a=none:=fun j a ha hb=>by
  cases q:S' a with
  |none=>rfl
  | some o=>
    obtain⟨⟨o',h1,_⟩,_,h3⟩:=J.live j a ha
    rcases nw a (by rw[q];simp)with z|z|z
    . exact absurd h3 z
    . rw[h1]at z;cases z
    . exact absurd z hb
 have J1:SRF K cls Av G S₀ (ρ.set i none) (σ.set i none) S H (pK F i []):=J.put (fun t e=>nomatch e) (fun a ha=>nomatch ha) fun j a _ ha=>nomatch ha
 have off:∀ j a,a∈pK F i [] j->a∉f1 /\ j≠i:=fun j a ha=>by
  by_cases ej:j=i
  . subst ej;rw[jE]at ha;cases ha
  . rw[fR ej]at ha
    exact⟨fun hb=>ej (J.apart j i a ha (in1 a hb)),ej⟩
 have J2:=J1.change (S':=S') (H':=H') gh s sh new (fun j a ha o h=>keep a o (off j a ha).1 h)
  (fun b o hx h=>keep b o (fun hb=>by
    obtain⟨⟨o',h1,h2⟩,_⟩:=J.live i b (in1 b hb)
    rw[h]at h1;cases h1;rw[hx]at h2;cases h2) h)
  fun j a ha=>by
   have hj:=off j a ha;rw[fR hj.2]at ha;exact noS j a ha hj.1
 have mem:∀ a,a∈g->a∈f' \/ a∈rest:=fun a ha=>List.mem_append.mp (pg.mem_iff.mp ha)
 have hlive:∀ a∈g,(∃ o,H' a=some o /\ isX o=false) /\ G a=none /\ S' a=none:=fun a ha=>by
  refine⟨rg.live a ha,?_,?_⟩
  . rcases mem a ha with z|z
    . rcases fr a z with y|y
      . exact(gs a (in1 a y)).1
      . exact J.gh.free y
    . exact(gs a (inr a z)).1
  . rcases mem a ha with z|z
    . exact nS a z
    . exact noS i a (inr a z) (off1 a z)
 have ndg:g.Nodup:=pg.nodup_iff.mpr (List.nodup_append.mpr ⟨nd',(List.nodup_append.mp nd1).2.1,fun a ha b hb z=>by
  subst z
  rcases fr a ha with y|y
  . exact off1 a hb y
  . obtain⟨⟨o',h1,_⟩,_⟩:=J.live i a (inr a hb)
    rw[y]at h1;cases h1⟩)
 have J3:=J2.put (i:=i) (s:=some (.tr io (t.put π u'))) (u:=some v0) (fp:=g) (fun t' e=>by
  cases e
  exact⟨v0,rfl,rg,ndg,fun a ha=>⟨(hlive a ha).2.1,(hlive a ha).2.2⟩,hio⟩) hlive fun j a hj ha hz=>by
   rw[fR hj]at hz
   rcases mem a ha with z|z
   . rcases fr a z with y|y
     . exact hj (J.apart j i a hz (in1 a y))
     . obtain⟨⟨o',h1,_⟩,_⟩:=J.live j a hz;rw[y]at h1;cases h1
   . exact hj (J.apart j i a hz (inr a z))
 rw[List.set_set,List.set_set,lZ hv]at J3
 have eF:pK (pK F i []) i g=pK F i g:=by
  funext j
  by_cases ej:j=i
  . subst ej;rw[jE,jE]
  . rw[fR ej,fR ej,fR ej]
 rw[eF]at J3
 exact⟨g,J3,pg⟩
theorem SRF.more(I:SRF K cls Av G S₀ ρ σ S H F)(h:∀ t,s=some t->∃ v,u=some v /\ vi K cls Av G S H ρ.length t v fp)
  (hl:∀ a∈fp,(∃ o,H a=some o /\ isX o=false) /\ G a=none /\ S a=none) (ap:∀ j a,j<ρ.length->a∈fp->a∉F j):∃ F',SRF K cls Av G S₀ (ρ++[s]) (σ++[u]) S H F':=by
 refine⟨fun j=>if j<ρ.length then F j else if j=ρ.length then fp else[],I.gh,I.s0,I.sh,I.new,fun j t e=>?_,fun j k a h1 h2=>?_,fun j a ha=>?_,by simp[I.len]⟩
 . by_cases hj:j<ρ.length
   . rw[List.getElem?_append_left hj]at e;rw[List.getElem?_append_left (by rw[<- I.len];exact hj)];simp only[hj,if_true];exact I.own j t e
   . rw[List.getElem?_append_right (Nat.le_of_not_lt hj)]at e
     have h0:j - ρ.length=0:=by
      by_cases h:j - ρ.length=0
      . exact h
      . rw[List.getElem?_eq_none (by simp;omega)]at e;cases e
     rw[h0]at e
     have ej:j=ρ.length:=by omega
     obtain⟨v,e2,r⟩:=h t (Option.some.inj e)
     refine⟨v,?_,?_⟩
     . rw[List.getElem?_append_right (by rw[<- I.len];omega),<- I.len,h0,e2];rfl
     . subst ej;simp only[Nat.lt_irrefl,if_false,if_true];exact r
 . by_cases hj:j<ρ.length
   . simp only[hj,if_true]at h1
     by_cases hk:k<ρ.length
     . simp only[hk,if_true]at h2;exact I.apart j k a h1 h2
     . simp only[hk,if_false]at h2;split at h2
       . exact absurd h1 (ap j a hj h2)
       . cases h2
   . simp only[hj,if_false]at h1;split at h1
     . rename_i ej
       by_cases hk:k<ρ.length
       . simp only[hk,if_true]at h2;exact absurd h2 (ap k a hk h1)
       . simp only[hk,if_false]at h2;split at h2
         . rename_i ek;rw[ej,ek]
         . cases h2
     . cases h1
 . by_cases hj:j<ρ.length
   . simp only[hj,if_true]at ha;exact I.live j a ha
   . simp only[hj,if_false]at ha;split at ha
     . exact hl a ha
     . cases ha
theorem SR.fold(I:SR K cls Av G S₀ (ρ++[some s]) (σ++[some v]) S H)(hs:nio s=true):SR K cls Av G S₀ (ρ.set i (some s)) (σ.set i (some v)) S H:=by
 obtain⟨F,J⟩:=I
 have hlen:ρ.length=σ.length:=by have:=J.len;simpa using this
 obtain⟨v',ev,r⟩:=J.own ρ.length s (by simp)
 have ev':v'=v:=by
  rw[List.getElem?_append_right (by rw[hlen];exact Nat.le_refl _),hlen,Nat.sub_self]at ev
  cases ev;rfl
 subst ev'
 have J1:SRF K cls Av G S₀ ρ σ S H (fun j=>if j<ρ.length then F j else[]):=by
  refine⟨J.gh,J.s0,J.sh,J.new,fun j t e=>?_,fun j k a h1 h2=>?_,fun j a ha=>?_,hlen⟩
  . have hj:j<ρ.length:=(List.getElem?_eq_some_iff.mp e).1
    obtain⟨v2,e2,r2⟩:=J.own j t (by rw[List.getElem?_append_left hj];exact e);rw[List.getElem?_append_left (by rw[<- hlen];exact hj)]at e2;simp only[hj,if_true]
    exact⟨v2,e2,r2⟩
  . split at h1
    . split at h2
      . exact J.apart j k a h1 h2
      . cases h2
    . cases h1
  . split at ha
    . exact J.live j a ha
    . cases ha
 refine⟨_,J1.put (i:=i) (s:=some s) (u:=some v') (fp:=F ρ.length) (fun t e=>?_) (fun a ha=>J.live _ a ha) fun j a hj ha hz=>?_⟩
 . cases e
   refine⟨v',rfl,?_⟩
   cases s with
   |sh x=>exact r
   |ow xs=>exact r
   |ex c fs=>exact r
   | tr io t=>
     cases io with
     |true=>cases hs
     |false=>exact⟨r.1,r.2.1,r.2.2.1,fun z=>nomatch z⟩
   |bo t=>cases hs
 . split at hz
   . rename_i hj';have:=J.apart j ρ.length a hz ha;omega
   . cases hz
theorem SR.CF(I:SR K cls Av G S₀ (ρ++[s]) (σ++[u]) S H):SR K cls Av G S₀ ρ σ S H:=by
 obtain⟨F,J⟩:=I
 have hlen:ρ.length=σ.length:=by have:=J.len;simpa using this
 refine⟨F,J.gh,J.s0,J.sh,J.new,fun j t e=>?_,J.apart,J.live,hlen⟩
 have hj:j<ρ.length:=(List.getElem?_eq_some_iff.mp e).1
 obtain⟨v2,e2,r2⟩:=J.own j t (by rw[List.getElem?_append_left hj];exact e);rw[List.getElem?_append_left (by rw[<- hlen];exact hj)]at e2
 exact⟨v2,e2,r2⟩
noncomputable def Gu(K:PySem.W.Frag)(cls:String->Option Addr)(B S H:Hp)(t:OV)(v:V):Prop:=∃ fp,bz K cls S H t v fp /\ fp.Nodup /\ ∀ a∈fp,B a=none /\ S a=none
noncomputable def MC(K:PySem.W.Frag)(cls:String->Option Addr)(B S H:Hp)(ts:List OV)(vs:List V):Prop:=∃ fp,bC K cls S H ts vs fp /\ fp.Nodup /\ ∀ a∈fp,B a=none /\ S a=none
noncomputable def MM(K:PySem.W.Frag)(cls:String->Option Addr)(W:XW)(σ:St)(S H:Hp)(Q:VK):OD->Prop
 |.ok t=>∀ v S' H',bj S H S' H'->Gu K cls H S' H' t v->Q v H'
 |.exc c fs=>∀ a C S' H',bj S H S' H'->qo K cls S' H' c fs a C->W (.ref C) (some a) σ H'
 |.bad=>False
noncomputable def LQ(K:PySem.W.Frag)(cls:String->Option Addr)(W:XW)(σ:St)(S H:Hp)(Q:List V->Hp->Prop):ODs->Prop
 |.ok ts=>∀ vs S' H',bj S H S' H'->MC K cls H S' H' ts vs->Q vs H'
 |.exc c fs=>∀ a C S' H',bj S H S' H'->qo K cls S' H' c fs a C->W (.ref C) (some a) σ H'
 |.bad=>False
noncomputable def JD(K:PySem.W.Frag)(cls:String->Option Addr)(W:XW)(te:TE)(m:ag->OD):Prop:=∀ Av G S₀ ρ σ S H Q,SR K cls Av G S₀ ρ σ S H->MM K cls W σ S H Q (m ρ)->te σ H Q
noncomputable def JDs(K:PySem.W.Frag)(cls:String->Option Addr)(W:XW)(te:TA)(m:ag->ODs):Prop:=∀ Av G S₀ ρ σ S H Q,SR K cls Av G S₀ ρ σ S H->LQ K cls W σ S H Q (m ρ)->te σ H Q
theorem Gu.grow(h:Gu K cls B S H t v)(w:bj S H S1 H1):Gu K cls B S1 H1 t v:=by
 obtain⟨fp,r,nd,g⟩:=h
 refine⟨fp,r.mono w.s fun a _ o z=>w.g _ _ z,nd,fun a ha=>⟨(g a ha).1,?_⟩⟩
 obtain⟨o,h1,_⟩:=r.live a ha
 cases q:S1 a with
 |none=>rfl
 | some o'=>
   rcases w.new a (by rw[q];simp)with z|z
   . exact absurd (g a ha).2 z
   . rw[h1]at z;cases z
theorem lH{me:ag->OE}(h:JE K cls W te me):JD K cls W te (mD me):=by
 intro Av G S₀ ρ σ S H Q I p;refine h Av G S₀ ρ σ S H Q I ?_;unfold mD at p
 cases e:me ρ with
 |exc c fs=>rw[e]at p;exact p
 |bad=>rw[e]at p;exact p
 | ok r=>
   rw[e]at p
   cases r with
   |sh x=>exact fun v S' H' w r=>p v S' H' w ⟨[],by unfold bz;exact⟨rfl,r⟩,List.nodup_nil,fun a ha=>nomatch ha⟩
   |al xs=>exact p.elim
   | fr xs=>
     intro v S' H' w r;obtain⟨q,vs,rfl,hB,hS,hH,hr⟩:=r;refine p _ S' H' w ⟨[q],by unfold bz;exact⟨q,vs,[],rfl,hH,rfl,.shs hr⟩,by simp,fun a ha=>?_⟩
     have z:a=q:=by simpa using ha
     subst z;exact⟨hB,hS⟩
theorem GY:JDs K cls W mG mDn:=fun Av G S₀ ρ σ S H Q I p=>p [] S H (bj.refl I.sh) ⟨[],.nil,List.nodup_nil,fun a ha=>nomatch ha⟩
theorem tJ{md:ag->OD}{mr:ag->ODs}(hd:JD K cls W te md)(ht:JDs K cls W t mr):JDs K cls W (jx te t) (mDc md mr):=by
 intro Av G S₀ ρ σ S H Q I p;refine hd Av G S₀ ρ σ S H _ I ?_;unfold mDc at p
 cases e:md ρ with
 |exc c fs=>rw[e]at p;exact p
 |bad=>rw[e]at p;exact p
 | ok x=>
   rw[e]at p;intro v S1 H1 w1 r1;refine ht Av G S₀ ρ σ S1 H1 _ (I.grow w1) ?_
   dsimp only at p
   cases e2:mr ρ with
   |exc c fs=>rw[e2]at p;exact fun a C S' H' w x=>p a C S' H' (w1.trans w) x
   |bad=>rw[e2]at p;exact p
   | ok ts=>
     rw[e2]at p;intro vs S2 H2 w2 r2;obtain⟨f2,q2,n2,g2⟩:=r2;have r3:=r1.grow w2;obtain⟨f0,q0,n0,g0⟩:=r1;refine p (v ::vs) S2 H2 (w1.trans w2) ⟨f0++f2,.cons (q0.mono w2.s fun a _ o z=>w2.g _ _ z) q2,List.nodup_append.mpr ⟨n0,n2,fun a ha b hb z=>?_⟩,fun a ha=>?_⟩
     . subst z;obtain⟨o,h1,_⟩:=q0.live a ha;rw[(g2 a hb).1]at h1;cases h1
     . rcases List.mem_append.mp ha with z|z
       . refine⟨(g0 a z).1,?_⟩
         obtain⟨o,h1,_⟩:=q0.live a z
         cases q:S2 a with
         |none=>rfl
         | some o'=>
           rcases w2.new a (by rw[q];simp)with y|y
           . exact absurd (g0 a z).2 y
           . rw[h1]at y;cases y
       . exact⟨w1.g.free (g2 a z).1,(g2 a z).2⟩
theorem Lw{mr:ag->ODs}(h:JDs K cls W t mr):JD K cls W (HQ t) (mDl mr):=by
 intro Av G S₀ ρ σ S H Q I p;refine h Av G S₀ ρ σ S H _ I ?_;unfold mDl at p
 cases e:mr ρ with
 |exc c fs=>rw[e]at p;exact p
 |bad=>rw[e]at p;exact p
 | ok ts=>
   rw[e]at p
   dsimp only at p
   split at p
   . rename_i hl;intro vs S1 H1 w1 r1;obtain⟨fp,r,nd,g⟩:=r1
     refine⟨by rw[r.length];exact hl,fun q hq=>?_⟩
     have w2:bj S1 H1 S1 (upd H1 q (.lst vs)):=bj.heap w1.sh hq
     refine p (.ref q) S1 _ (w1.trans w2) ⟨q ::fp,by unfold bz;exact⟨q,vs,fp,rfl,bL,rfl,r.mono (aK.refl _) fun a _ o z=>w2.g _ _ z⟩,List.nodup_cons.mpr ⟨fun z=>?_,nd⟩,fun a ha=>?_⟩
     . obtain⟨o,h1,_⟩:=r.live q z;rw[hq]at h1;cases h1
     . rcases List.mem_cons.mp ha with z|z
       . subst z;exact⟨w1.g.free hq,w1.sh.free hq⟩
       . exact g a z
   . exact p.elim
theorem SR.Nf(I:SR K cls Av G S₀ ρ σ S H)(w:bj S H S' H')(h:Gu K cls H S' H' t v):SR K cls Av G S₀ (ρ.set i (some (.tr false t))) (σ.set i (some v)) S' H':=by
 obtain⟨F,J⟩:=I;obtain⟨fp,r,nd,g⟩:=h
 refine⟨_,(J.grow w).put (fp:=fp) (fun t' e=>by cases e;exact⟨v,rfl,r,nd,fun a ha=>⟨J.gh.free (g a ha).1,(g a ha).2⟩,fun z=>nomatch z⟩) (fun a ha=>⟨r.live a ha,J.gh.free (g a ha).1,(g a ha).2⟩) fun j a _ ha hz=>?_⟩
 obtain⟨⟨o,h1,_⟩,_⟩:=J.live j a hz;rw[(g a ha).1]at h1;cases h1
theorem qR{md:ag->OD}(h:JD K cls W te md):JS K cls W (vm te (mm i)) (lx i md):=by
 intro Av G S₀ ρ σ S H D I p;refine h Av G S₀ ρ σ S H _ I ?_;unfold lx at p
 cases e:md ρ with
 |exc c fs=>rw[e]at p;exact fun a C S' H' w x=>p a C σ S' H' (I.grow w) w.s x
 |bad=>rw[e]at p;exact p
 |ok t=>rw[e]at p;exact fun v S1 H1 w1 r1=>p _ S1 H1 (I.Nf w1 r1) w1.s
end
section
variable{K:PySem.W.Frag}{cls:String->Option Addr}{W:XW}{Av G S₀ S S' H H' B B':Hp}{ρ:ag}{σ:St}{Q:VK}{F:Nat->List Addr}
theorem bz.Ft{ts:List OV}{v:V}{fp:List Addr}(h:bz K cls S H (.ol ts) v fp):∃ p vs f,v=.ref p /\ H p=some (.lst vs) /\ fp=p ::f /\ bC K cls S H ts vs f:=by unfold bz at h;exact h
theorem SRF.vC{i:Nat}{io:Bool}{t:OV}{ts:List OV}{v0:V}{π:List Stp}(J:SRF K cls Av G S₀ ρ σ S H F)(hi:ρ[i]?=some (some (.tr io t)))(hv:σ[i]?=some (some v0))(e:t.get π=some (.ol ts)):
  ∃ q vs ff rest,kH H v0 π (.ref q) /\ H q=some (.lst vs) /\ vs.length=ts.length /\ bC K cls S H ts vs ff /\ (F i).Perm ((q ::ff)++rest) /\ ((q ::ff)++rest).Nodup /\
    ∀ S' H' ts' vs' f',bj S H S' H'->bC K cls S' H' ts' vs' f'->f'.Nodup->(∀ a∈f',a∈ff \/ (H a=none /\ S' a=none)) ->
      ∃ g,SRF K cls Av G S₀ (ρ.set i (some (.tr io (t.put π (.ol ts'))))) σ S' (upd H' q (.lst vs')) (pK F i g) /\ g.Perm ((q ::f')++rest):=by
 obtain⟨w,f1,rest,wk,r1,p1,nd1,gs,c⟩:=J.part hi hv e;obtain⟨q,vs,ff,rfl,hq,rfl,rs⟩:=r1.Ft
 refine⟨q,vs,ff,rest,wk,hq,rs.length,rs,p1,nd1,fun S' H' ts' vs' f' wg r' nd' fr=>?_⟩
 have hGq:=(gs q (by simp)).1;have hSq:=(gs q (by simp)).2
 have hS'q:S' q=none:=by
  cases z:S' q with
  |none=>rfl
  | some o=>
    rcases wg.new q (by rw[z];simp)with y|y
    . exact absurd hSq y
    . rw[hq]at y;cases y
 have nq:q∉f':=fun z=>by
  rcases fr q z with y|y
  . exact(List.nodup_cons.mp (List.nodup_append.mp nd1).1).1 y
  . rw[y.1]at hq;cases hq
 have nS:∀ a∈f',S' a=none:=fun a ha=>by
  rcases fr a ha with y|y
  . cases z:S' a with
    |none=>rfl
    | some o=>
      obtain⟨o',h1,_⟩:=rs.live a y
      rcases wg.new a (by rw[z];simp)with k|k
      . exact absurd (gs a (by simp[y])).2 k
      . rw[h1]at k;cases k
  . exact y.2
 refine c S' (upd H' q (.lst vs')) (.ol ts') (q ::f') wg.s (wg.sh.upd hS'q) ((J.gh.trans wg.g).upd hGq) (fun b h=>?_) ?_ (List.nodup_cons.mpr ⟨nq,nd'⟩) (fun a ha=>?_) (fun a ha=>?_) (fun a o hn h=>?_) fun a h=>?_
 . rcases wg.new b h with z|z
   . exact J.new b z
   . exact .inr (J.gh.free z)
 . unfold bz
   exact⟨q,vs',f',rfl,bL,rfl,r'.mono (aK.refl _) fun a ha o h=>by rw[bP (fun z=>nq (by rw[<- z];exact ha))];exact h⟩
 . rcases List.mem_cons.mp ha with z|z
   . subst z;exact .inl (by simp)
   . rcases fr a z with y|y
     . exact .inl (by simp[y])
     . exact .inr y.1
 . rcases List.mem_cons.mp ha with z|z
   . subst z;exact hS'q
   . exact nS a z
 . rw[bP (fun z=>hn (by rw[z];simp))];exact wg.g _ _ h
 . rcases wg.new a h with z|z
   . exact .inl z
   . exact .inr (.inl z)
theorem JP.at{i:Nat}{te:TE}{mp:MP}{io:Bool}{t u:OV}{v0:V}{π:List Stp}{Q:VK}(hp:JP K cls te i mp)(I:SR K cls Av G S₀ ρ σ S H)(hi:ρ[i]?=some (some (.tr io t)))(hv:σ[i]?=some (some v0))(e0:mp ρ=some π)(e1:t.get π=some u)
  (k:∀ w S' H',bj S H S' H'->SR K cls Av G S₀ ρ σ S' H'->kH H' v0 π w->Q w H'):te σ H Q:=
 hp Av G S₀ ρ σ S H Q v0 t π I (by unfold gB;rw[hi];rfl) hv e0 (by rw[e1];rfl) fun w S1 H1 w1 wk=>k w S1 H1 w1 (I.grow w1) wk
theorem ub{i:Nat}{mp:MP}{k:OV->(OV->ag)->OS}{D:Ends}(p:jN K cls W Av G S₀ S D (vd i mp ρ k)):∃ io t π u,ρ[i]?=some (some (.tr io t)) /\ mp ρ=some π /\ t.get π=some u /\ jN K cls W Av G S₀ S D (k u fun u'=>ρ.set i (some (.tr io (t.put π u')))):=by
 unfold vd at p;split at p
 . rename_i io t hi;split at p
   . rename_i π e0;split at p
     . rename_i u e1
       exact⟨io,t,π,u,hi,e0,e1,p⟩
     . exact p.elim
   . exact p.elim
 . exact p.elim
theorem SR.val{i:Nat}{s:Sl}(I:SR K cls Av G S₀ ρ σ S H)(e:ρ[i]?=some (some s)):∃ v,σ[i]?=some (some v):=let ⟨v,h,_⟩:=I.good i s e;⟨v,h⟩
theorem eH{i:Nat}{te tx:TE}{mp:MP}{md:ag->OD}(hp:JP K cls te i mp)(hx:JD K cls W tx md):JS K cls W (uX (tBM K "list" yy te (jx tx mG))) (bR i mp md):=by
 intro Av G S₀ ρ σ S H D I p;obtain⟨io,t,π,u,hi,e0,e1,p⟩:=ub p;obtain⟨v0,hv⟩:=I.val hi
 cases u with
 |sh x=>exact p.elim
 |ob c ks us=>exact p.elim
 |di x=>exact p.elim
 |dt x=>exact p.elim
 | ol ts=>
   dsimp only at p
   refine hp.at I hi hv e0 e1 fun w S1 H1 w1 I1 wk=>?_
   obtain⟨F,J1⟩:=I1;obtain⟨q,vs,ff,rest,wk',hq,hl,rs,_,nd,c⟩:=J1.vC hi hv e1;have:=wk.inj wk';subst this
   refine⟨.inl ⟨rfl,_,SqL.new hq⟩,?_⟩
   refine hx Av G S₀ ρ σ S1 H1 _ ⟨F,J1⟩ ?_
   cases ed:md ρ with
   |exc c fs=>rw[ed]at p;exact fun a C S' H' w x=>p a C σ S' H' (SR.grow ⟨F,J1⟩ w) (w1.s.trans w.s) x
   |bad=>rw[ed]at p;exact p
   | ok x=>
     rw[ed]at p
     dsimp only at p
     split at p
     . rename_i hlt;intro v S2 H2 w2 r2;obtain⟨fx,rx,ndx,gx⟩:=r2
       refine⟨q,vs,v,rfl,rfl,w2.g _ _ hq,by rw[hl];exact hlt,?_⟩
       have ndf:ff.Nodup:=(List.nodup_cons.mp (List.nodup_append.mp nd).1).2
       have apx:∀ a∈ff,a∉fx:=fun a ha hb=>by
        obtain⟨o,h1,_⟩:=rs.live a ha;rw[(gx a hb).1]at h1;cases h1
       obtain⟨g,J3,_⟩:=c S2 H2 (ts++[x]) (vs++[v]) (ff++(fx++[])) w2 ((rs.mono w2.s fun a _ o h=>w2.g _ _ h).append (.cons rx .nil)) (by
         rw[List.append_nil]
         exact List.nodup_append.mpr ⟨ndf,ndx,fun a ha b hb z=>by subst z;exact apx a ha hb⟩) (fun a ha=>by
         rw[List.append_nil]at ha
         rcases List.mem_append.mp ha with z|z
         . exact .inl z
         . exact .inr (gx a z))
       exact p σ S2 _ ⟨_,J3⟩ (w1.s.trans w2.s)
     . exact p.elim
end
section
variable{K:PySem.W.Frag}{cls:String->Option Addr}{W:XW}{Av G S₀ S S' H H' B B':Hp}{ρ:ag}{σ:St}{Q:VK}{F:Nat->List Addr}
theorem vE{i:Nat}{te tk tx:TE}{mp:MP}{mk:ag->OE}{md:ag->OD}(hp:JP K cls te i mp)(hk:JE K cls W tk mk)(hx:JD K cls W tx md):JS K cls W (vm tx (Il te tk Fq)) (qj i mp mk md):=by
 intro Av G S₀ ρ σ S H D I p;refine hx Av G S₀ ρ σ S H _ I ?_;unfold qj at p
 cases ed:md ρ with
 |exc c fs=>rw[ed]at p;exact fun a C S' H' w x=>p a C σ S' H' (I.grow w) w.s x
 |bad=>rw[ed]at p;exact p
 | ok x=>
   rw[ed]at p
   dsimp only at p
   obtain⟨io,t,π,u,hi,e0,e1,p⟩:=ub p;obtain⟨v0,hv⟩:=I.val hi
   cases u with
   |sh x=>exact p.elim
   |ob c ks us=>exact p.elim
   |di x=>exact p.elim
   |dt x=>exact p.elim
   | ol ts=>
     dsimp only at p
     intro v S1 H1 w1 r1
     refine hp.at (I.grow w1) hi hv e0 e1 fun w S2 H2 w2 I2 wk=>?_
     have p2:=p.back (w1.s.trans w2.s)
     refine hk.goS I2 p2 fun r z S3 H3 I3 w3 r3 p3=>?_
     cases en:r.pv with
     | int n=>
       rw[en]at p3
       dsimp only at p3
       cases ej:ixP ts.length n with
       |none=>rw[ej]at p3;exact p3.elim
       | some j=>
         rw[ej]at p3;obtain⟨F,J⟩:=id I;obtain⟨q,vs,ff,rest,wk',hq,hl,rs,_,nd,c⟩:=J.vC hi hv e1;have:=wk.inj (wk'.mono (w1.g.trans w2.g));subst this
         have hz:z=.int n:=by have:=r3.rd I3.sh;rw[en]at this;exact dg this
         subst hz
         have wg:bj S H S3 H3:=(w1.trans w2).trans w3
         have hj:j<ts.length:=by
          unfold ixP at ej;split at ej
          . split at ej
            . cases ej;omega
            . cases ej
          . split at ej
            . cases ej;omega
            . cases ej
         have ndf:ff.Nodup:=(List.nodup_cons.mp (List.nodup_append.mp nd).1).2
         obtain⟨fx,rx,ndx,gx⟩:=(r1.grow w2).grow w3;obtain⟨w0,f1,rs',e1',r1',p1',c1⟩:=rs.at (k:=j) (u:=ts[j]) (by simp[hj])
         obtain⟨g,rg,pg⟩:=c1 S3 H3 x v fx wg.s rx fun a _ o h=>wg.g _ _ h
         have inff:∀ a∈rs',a∈ff:=fun a ha=>p1'.mem_iff.mpr (List.mem_append_right _ ha)
         have ndr:rs'.Nodup:=(List.nodup_append.mp (p1'.nodup_iff.mp ndf)).2.1
         have ndg:g.Nodup:=pg.nodup_iff.mpr (List.nodup_append.mpr ⟨ndx,ndr,fun a ha b hb z=>by
          subst z;obtain⟨o,h1,_⟩:=rs.live a (inff a hb)
          rw[(gx a ha).1]at h1;cases h1⟩)
         obtain⟨g2,J3,_⟩:=c S3 H3 (ts.set j x) (vs.set j v) g wg rg ndg fun a ha=>by
          rcases List.mem_append.mp (pg.mem_iff.mp ha)with z|z
          . exact .inr (gx a z)
          . exact .inl (inff a z)
         exact⟨q,vs,n,j,rfl,rfl,wg.g _ _ hq,by rw[hl];exact ej,p3 σ S3 _ ⟨_,J3⟩ (aK.refl _)⟩
     |_=>rw[en]at p3;exact p3.elim
noncomputable def Jp(K:PySem.W.Frag)(cls:String->Option Addr)(W:XW)(Av G S₀:Hp)(σ:St)(S:Hp)(Q:VK):OX->Prop
 |.ok ρ' s=>∀ v S' H',SR K cls Av G S₀ (ρ'++[some s]) (σ++[some v]) S' H'->aK S S'->Q v H'
 |.exc ρ' c fs=>∀ a C S' H',SR K cls Av G S₀ ρ' σ S' H'->aK S S'->qo K cls S' H' c fs a C->W (.ref C) (some a) σ H'
 |.bad=>False
noncomputable def JX(K:PySem.W.Frag)(cls:String->Option Addr)(W:XW)(te:TE)(m:ag->OX):Prop:=∀ Av G S₀ ρ σ S H Q,SR K cls Av G S₀ ρ σ S H->Jp K cls W Av G S₀ σ S Q (m ρ)->te σ H Q
theorem oN{i:Nat}{te:TE}{m:ag->OX}(h:JX K cls W te m):JS K cls W (vm te (mm i)) (iE i m):=by
 intro Av G S₀ ρ σ S H D I p;refine h Av G S₀ ρ σ S H _ I ?_;unfold iE at p
 cases e:m ρ with
 |exc ρ' c fs=>rw[e]at p;exact fun a C S' H' I' s' x=>p a C σ S' H' I' s' x
 |bad=>rw[e]at p;exact p
 | ok ρ' s=>
   rw[e]at p
   dsimp only at p
   split at p
   . rename_i hs
     exact fun v S' H' I' s'=>p _ S' H' (I'.fold hs) s'
   . exact p.elim
theorem SR.KW{x:PV}{v:V}(I:SR K cls Av G S₀ (ρ++[some (.sh x)]) (σ++[some v]) S H):Rep K S x v:=by
 obtain⟨F,J⟩:=I
 have hlen:ρ.length=σ.length:=by have:=J.len;simpa using this
 obtain⟨v',ev,r⟩:=J.own ρ.length (.sh x) (by simp);rw[List.getElem?_append_right (by rw[hlen];exact Nat.le_refl _),hlen,Nat.sub_self]at ev;cases ev;exact r.2
theorem Hg{te:TE}{m:ag->OX}{ta tb:TS}{ma mb:ag->OS}(h:JX K cls W te m)(ha:JS K cls W ta ma)(hb:JS K cls W tb mb):
  JS K cls W (IT (HH (fun σ H Q=>te σ H fun x H'=>∃ k,BW K x H' k /\ Q k H')) ta tb) (HZ true m ma mb):=by
 intro Av G S₀ ρ σ S H D I p;refine h Av G S₀ ρ σ S H _ I ?_;unfold HZ at p
 cases e:m ρ with
 |exc ρ' c fs=>rw[e]at p;exact fun a C S' H' I' s' x=>p a C σ S' H' I' s' x
 |bad=>rw[e]at p;exact p
 | ok ρ' s=>
   rw[e]at p
   cases s with
   | sh x=>
     dsimp only at p
     intro v S' H' I' s'
     cases et:vb x with
     |none=>rw[et]at p;exact p.elim
     | some k=>
       rw[et]at p
       refine⟨k,CO I'.sh (I'.KW.rd I'.sh) et,?_⟩
       cases k with
       |false=>exact Aq (ha Av G S₀ ρ' σ S' H' D I'.CF (p.back s'))
       |true=>exact zF (hb Av G S₀ ρ' σ S' H' D I'.CF (p.back s'))
   |ow xs=>exact p.elim
   |ex c fs=>exact p.elim
   |tr io t=>exact p.elim
   |bo t=>exact p.elim
theorem bC.last{ts:List OV}{vs:List V}{f:List Addr}{x:OV}(h:bC K cls S H ts vs f)(e:ts.getLast?=some x):∃ y f1 f2,vs[vs.length - 1]?=some y /\ bC K cls S H ts.dropLast vs.dropLast f1 /\ bz K cls S H x y f2 /\ f=f1++f2:=by
 induction ts generalizing vs f with
 |nil=>cases e
 | cons t ts ih=>
   obtain⟨v,r,f1,f2,rfl,rfl,h1,h2⟩:=h.cons_inv
   cases ts with
   | nil=>
     unfold bC at h2;obtain⟨rfl,rfl⟩:=h2;simp at e;subst e
     exact⟨v,[],f1,rfl,.nil,h1,by simp⟩
   | cons t2 ts2=>
     rw[List.getLast?_cons_cons]at e;obtain⟨y,g1,g2,e1,r1,r2,rfl⟩:=ih h2 e
     have hr:r≠[]:=by intro z;subst z;have:=h2.length;simp at this
     refine⟨y,f1++g1,g2,?_,?_,r2,by simp⟩
     . cases r with
       |nil=>exact absurd rfl hr
       |cons a r'=>simpa using e1
     . cases r with
       |nil=>exact absurd rfl hr
       |cons a r'=>exact bC.cons h1 r1
theorem HV{x:OV}{v:V}{fp:List Addr}{i:Nat}(h:bz K cls S H x v fp)(nd:fp.Nodup)(g:∀ a∈fp,G a=none /\ S a=none):vi K cls Av G S H i (slO x) v fp:=by
 cases x with
 |sh y=>unfold bz at h;exact h
 |ol ts=>exact⟨h,nd,g,fun z=>nomatch z⟩
 |ob c ks ts=>exact⟨h,nd,g,fun z=>nomatch z⟩
 |di x=>exact⟨h,nd,g,fun z=>nomatch z⟩
 |dt x=>exact⟨h,nd,g,fun z=>nomatch z⟩
theorem yY{i:Nat}{te:TE}{mp:MP}(hp:JP K cls te i mp):JX K cls W (K0 K "list" MI te) (mR i mp):=by
 intro Av G S₀ ρ σ S H Q I p;unfold mR at p;split at p
 . rename_i io t hi;split at p
   . rename_i π e0;split at p
     . rename_i ts e1;split at p
       . rename_i x ex;obtain⟨v0,hv⟩:=I.val hi
         refine hp.at I hi hv e0 e1 fun w S1 H1 w1 I1 wk=>?_
         obtain⟨F,J1⟩:=id I1;obtain⟨q,vs,ff,rest,wk',hq,hl,rs,pF,nd,c⟩:=J1.vC hi hv e1;have:=wk.inj wk';subst this;obtain⟨y,f1,f2,ey,ri,rx,rfl⟩:=rs.last ex
         have ndf:(f1++f2).Nodup:=(List.nodup_cons.mp (List.nodup_append.mp nd).1).2
         have nq:q∉f1++f2:=(List.nodup_cons.mp (List.nodup_append.mp nd).1).1
         refine⟨.inl ⟨rfl,_,SqL.new hq⟩,q,vs,y,rfl,rfl,hq,ey,?_⟩
         obtain⟨g,J3,pg⟩:=c S1 H1 ts.dropLast vs.dropLast f1 (bj.refl J1.sh) ri (List.nodup_append.mp ndf).1 fun a ha=>.inl (List.mem_append_left _ ha)
         have in2:∀ a∈f2,a∈F i:=fun a ha=>pF.mem_iff.mpr (by simp[ha])
         have rx':bz K cls S1 (upd H1 q (.lst vs.dropLast)) x y f2:=rx.mono (aK.refl _) fun a ha o h=>by rw[bP (fun z=>nq (by rw[<- z];simp[ha]))];exact h
         have gs2:∀ a∈f2,G a=none /\ S1 a=none:=fun a ha=>(J1.live i a (in2 a ha)).2
         obtain⟨F',J4⟩:=J3.more (s:=some (slO x)) (u:=some y) (fp:=f2) (fun t' e=>by cases e;exact⟨y,rfl,HV rx' (List.nodup_append.mp ndf).2.1 gs2⟩) (fun a ha=>⟨rx'.live a ha,gs2 a ha⟩) fun j a hj ha hz=>by
          by_cases ej:j=i
          . subst ej;rw[jE]at hz;have hm:=pg.mem_iff.mp hz;have hd:=List.nodup_append.mp nd
            rcases List.mem_append.mp hm with z|z
            . rcases List.mem_cons.mp z with z|z
              . subst z;exact nq (by simp[ha])
              . exact(List.nodup_append.mp ndf).2.2 a z a ha rfl
            . exact hd.2.2 a (by simp[ha]) a z rfl
          . rw[fR ej]at hz;exact ej (J1.apart j i a hz (in2 a ha))
         exact p y S1 _ ⟨F',J4⟩ w1.s
       . exact p.elim
     . exact p.elim
   . exact p.elim
 . exact p.elim
end
section
variable{K:PySem.W.Frag}{cls:String->Option Addr}{W:XW}{Av G S₀ S S' H H' B B':Hp}{ρ:ag}{σ:St}{Q:VK}{F:Nat->List Addr}
mutual
theorem bz.frozen(s:aK S S'):∀{t:OV} {v:V} {fp:List Addr} {x:PV},bz K cls S H t v fp->pvO t=some x->(∀ a∈fp,S' a=H a)->Rep K S' x v
 | .sh y,v,fp,x,h,e,g=>by
   unfold pvO at e;cases e;unfold bz at h;exact Rep.mono s h.2
 | .ol ts,v,fp,x,h,e,g=>by
   unfold pvO at e;obtain⟨xs,e1,rfl⟩:=Option.map_eq_some_iff.mp e;obtain⟨p,vs,f,rfl,hp,rfl,rs⟩:=h.Ft;unfold Rep
   exact⟨p,vs,rfl,SqL.new (by rw[g p (by simp)];exact hp),bC.frozen s rs e1 fun a ha=>g a (by simp[ha])⟩
 |.ob c ks ts,v,fp,x,h,e,g=>by unfold pvO at e;cases e
 |.di c,v,fp,x,h,e,g=>by unfold pvO at e;cases e
 |.dt c,v,fp,x,h,e,g=>by unfold pvO at e;cases e
theorem bC.frozen(s:aK S S'):∀{ts:List OV} {vs:List V} {fp:List Addr} {xs:List PV},bC K cls S H ts vs fp->wG ts=some xs->(∀ a∈fp,S' a=H a)->b0 K S' xs vs
 | [],vs,fp,xs,h,e,g=>by
   unfold wG at e;cases e;unfold bC at h;rw[h.1];exact .nil
 | t ::ts,vs,fp,xs,h,e,g=>by
   unfold wG at e;obtain⟨x,e1,e2⟩:=Option.bind_eq_some_iff.mp e;obtain⟨ys,e3,rfl⟩:=Option.map_eq_some_iff.mp e2;obtain⟨v,r,f1,f2,rfl,rfl,h1,h2⟩:=h.cons_inv;exact .cons (bz.frozen s h1 e1 fun a ha=>g a (by simp[ha])) (bC.frozen s h2 e3 fun a ha=>g a (by simp[ha]))
end
theorem SR.Kc{i:Nat}{t:OV}{x:PV}(I:SR K cls Av G S₀ ρ σ S H)(hi:ρ[i]?=some (some (.tr false t)))(ex:pvO t=some x):∃ S',aK S S' /\ SR K cls Av G S₀ (ρ.set i (some (.sh x))) σ S' H:=by
 obtain⟨F,J⟩:=I;obtain⟨v,hv,ro,nd,gs,_⟩:=J.own i _ hi
 have J1:SRF K cls Av G S₀ (ρ.set i none) (σ.set i none) S H (pK F i []):=J.put (fun t e=>nomatch e) (fun a ha=>nomatch ha) fun j a _ ha=>nomatch ha
 let S':Hp:=fun a=>if a∈F i then H a else S a
 have sS:aK S S':=fun b u h=>by
  show(if b∈F i then H b else S b)=some u
  rw[if_neg (fun z=>by rw[(gs b z).2]at h;cases h)];exact h
 have sH:aK S' H:=fun b u h=>by
  have h':(if b∈F i then H b else S b)=some u:=h
  split at h'
  . exact h'
  . exact J.sh b u h'
 have off:∀ j a,a∈pK F i [] j->a∉F i:=fun j a ha z=>by
  by_cases ej:j=i
  . subst ej;rw[jE]at ha;cases ha
  . rw[fR ej]at ha;exact ej (J.apart j i a ha z)
 have J2:=J1.change (S':=S') (H':=H) J.gh sS sH (fun b h=>by
   have h':(if b∈F i then H b else S b)≠none:=h
   split at h'
   . rename_i hb;exact .inr (gs b hb).1
   . exact J.new b h') (fun _ _ _ _ h=>h) (fun _ _ _ h=>h) fun j a ha=>by
     show(if a∈F i then H a else S a)=none
     rw[if_neg (off j a ha)];exact(J1.live j a ha).2.2
 have J3:=J2.put (i:=i) (s:=some (.sh x)) (u:=some v) (fp:=[]) (fun t' e=>by
  cases e
  exact⟨_,rfl,rfl,ro.frozen sS ex fun a ha=>by show(if a∈F i then H a else S a)=H a;rw[if_pos ha]⟩) (fun a ha=>nomatch ha) fun j a _ ha=>nomatch ha
 rw[List.set_set,List.set_set,lZ hv]at J3
 exact⟨S',sS,_,J3⟩
theorem vM{i:Nat}{ts:TS}{m:ag->OS}(h:JS K cls W ts m):JS K cls W ts (qh i m):=by
 intro Av G S₀ ρ σ S H D I p;unfold qh qV at p;split at p
 . rename_i t e;split at p
   . rename_i x ex;obtain⟨S',s,J⟩:=I.Kc e ex;exact h Av G S₀ _ σ S' H D J (p.back s)
   . exact h Av G S₀ ρ σ S H D I p
 . exact h Av G S₀ ρ σ S H D I p
theorem Ir{ks:List Str}{us:List (Str×V)}{f:Str}{y:V}(hk:us.map (·.1)=ks){k:Nat}(hf:∀ j,ks[j]?=some f->k<=j)(he:ks[k]?=some f):(kX f y us).map (·.1)=ks /\ (kX f y us).map (·.2)=(us.map (·.2)).set k y:=by
 induction us generalizing ks k with
 |nil=>subst hk;cases he
 | cons q us ih=>
   obtain⟨g,x⟩:=q;subst hk;unfold kX
   by_cases e:g=f
   . rw[if_pos e]
     have k0:k=0:=by have:=hf 0 (by simp[e]);omega
     subst k0
     exact⟨rfl,rfl⟩
   . rw[if_neg e]
     cases k with
     |zero=>simp at he;exact absurd he e
     | succ k=>
       obtain⟨h1,h2⟩:=ih (ks:=us.map (·.1)) (k:=k) rfl (fun j hj=>by have:=hf (j+1) (by simpa using hj);omega) (by simpa using he);simp[h1,h2]
theorem Fs{us:List (Str×V)}{f:Str}{y:V}(h:f∉us.map (·.1)):kX f y us=us++[(f,y)]:=by
 induction us with
 |nil=>rfl
 | cons q us ih=>
   obtain⟨g,x⟩:=q;simp at h;unfold kX;rw[if_neg (fun z=>h.1 z.symm),ih (by simpa using h.2)];rfl
theorem BR{ks:List Str}{ts:List OV}{f:Str}(hl:ts.length=ks.length)(h:f∈ks):∃ k,ks[k]?=some f /\ (∀ j,ks[j]?=some f->k<=j) /\ k<ts.length /\ ∀ u,xo ks ts f u=ts.set k u:=by
 induction ks generalizing ts with
 |nil=>cases h
 | cons g ks ih=>
   cases ts with
   |nil=>cases hl
   | cons t ts=>
     by_cases e:g=f
     . subst e
       exact⟨0,rfl,fun j _=>Nat.zero_le _,by simp,fun u=>by simp[xo]⟩
     . obtain ⟨k,h1,h2,h3,h4⟩:=ih (ts:=ts) (by simpa using hl) (by
        rcases List.mem_cons.mp h with z|z
        . exact absurd z.symm e
        . exact z)
       refine⟨k+1,by simpa using h1,fun j hj=>?_,by simpa using h3,fun u=>by simp[xo,e,h4]⟩
       cases j with
       |zero=>simp at hj;exact absurd hj e
       |succ j=>have:=h2 j (by simpa using hj);omega
theorem Hi{i:Nat}{te tx:TE}{mp:MP}{f:Str}{okc:String->Bool}{md:ag->OD}(hp:JP K cls te i mp)(hx:JD K cls W tx md)(ha:∀ c C,cls c=some C->okc c=true->Cls K C /\ ng K C f):JS K cls W (KQ K te tx f) (Gj i mp f okc md):=by
 intro Av G S₀ ρ σ S H D I p;refine hx Av G S₀ ρ σ S H _ I ?_;unfold Gj at p
 cases ed:md ρ with
 |exc c fs=>rw[ed]at p;exact fun a C S' H' w x=>p a C σ S' H' (I.grow w) w.s x
 |bad=>rw[ed]at p;exact p
 | ok x=>
   rw[ed]at p
   dsimp only at p
   obtain⟨io,t,π,u,hi,e0,e1,p⟩:=ub p;obtain⟨v0,hv⟩:=I.val hi
   cases u with
   |sh x=>exact p.elim
   |ol ts=>exact p.elim
   |di x=>exact p.elim
   |dt x=>exact p.elim
   | ob c ks ts=>
     dsimp only at p
     split at p
     . rename_i hok;rw[Bool.and_eq_true,decide_eq_true_eq]at hok;intro v S1 H1 w1 r1
       refine hp.at (I.grow w1) hi hv e0 e1 fun w S2 H2 w2 I2 wk=>?_
       obtain⟨F,J⟩:=id I;obtain⟨w0,f1,rest,wk',ro,pF,nd,gs,cc⟩:=J.part hi hv e1
       have wg:bj S H S2 H2:=w1.trans w2
       have:=wk.inj (wk'.mono wg.g);subst this;unfold bz at ro;obtain⟨q,C,dx,us,ff,rfl,hcl,hq,hd,hk,rfl,rs⟩:=ro;obtain⟨a1,a2⟩:=ha c C hcl hok.1;have nd1:=(List.nodup_append.mp nd).1
       have nq:q∉dx ::ff:=(List.nodup_cons.mp nd1).1
       have ndx':dx∉ff:=(List.nodup_cons.mp (List.nodup_cons.mp nd1).2).1
       have ndf:ff.Nodup:=(List.nodup_cons.mp (List.nodup_cons.mp nd1).2).2
       have hlen:us.length<1000:=by have:=congrArg List.length hk;simp at this;omega
       obtain⟨fx,rx,nx,gx⟩:=r1.grow w2
       refine⟨q,C,dx,us,rfl,wg.g _ _ hq,a1,a2,hlen,?_⟩
       have noS:∀ a∈q ::dx ::ff,S2 a=none:=fun a ha=>by
        cases z:S2 a with
        |none=>rfl
        | some o=>
          obtain⟨⟨o',h1,_⟩,_,h3⟩:=J.live i a (pF.mem_iff.mpr (List.mem_append_left _ ha))
          rcases wg.new a (by rw[z];simp)with y|y
          . exact absurd h3 y
          . rw[h1]at y;cases y
       have fin:∀ ks' ts' f',(kX f v us).map (·.1)=ks'->bC K cls S2 H2 ts' ((kX f v us).map (·.2)) f'->f'.Nodup->(∀ a∈f',a∈ff \/ (H a=none /\ S2 a=none)) ->
         SR K cls Av G S₀ (ρ.set i (some (.tr io (t.put π (.ob c ks' ts'))))) σ S2 (upd H2 q (.ins C dx (kX f v us))):=by
        intro ks' ts' f' hk' rs' nd' fr
        have nqf:q∉f':=fun z=>by
         rcases fr q z with y|y
         . exact nq (by simp[y])
         . rw[y.1]at hq;cases hq
        have ndf':dx∉f':=fun z=>by
         rcases fr dx z with y|y
         . exact ndx' y
         . rw[y.1]at hd;cases hd
        have ndq:dx≠q:=fun z=>nq (by simp[z])
        obtain⟨g,J3,_⟩:=cc S2 (upd H2 q (.ins C dx (kX f v us))) (.ob c ks' ts') (q ::dx ::f') wg.s (wg.sh.upd (noS q (by simp))) ((J.gh.trans wg.g).upd (gs q (by simp)).1) (fun b h=>by
          rcases wg.new b h with z|z
          . exact J.new b z
          . exact .inr (J.gh.free z)) (by
          unfold bz
          exact⟨q,C,dx,_,f',rfl,hcl,bL,by rw[bP ndq];exact wg.g _ _ hd,hk',rfl,rs'.mono (aK.refl _) fun a ha o h=>by rw[bP (fun z=>nqf (by rw[<- z];exact ha))];exact h⟩)
         (List.nodup_cons.mpr ⟨fun z=>by
           rcases List.mem_cons.mp z with z|z
           . exact ndq z.symm
           . exact nqf z,List.nodup_cons.mpr ⟨ndf',nd'⟩⟩) (fun a ha=>by
           rcases List.mem_cons.mp ha with z|z
           . subst z;exact .inl (by simp)
           . rcases List.mem_cons.mp z with z|z
             . subst z;exact .inl (by simp)
             . rcases fr a z with y|y
               . exact .inl (by simp[y])
               . exact .inr y.1) (fun a ha=>by
           rcases List.mem_cons.mp ha with z|z
           . subst z;exact noS _ (by simp)
           . rcases List.mem_cons.mp z with z|z
             . subst z;exact noS _ (by simp)
             . rcases fr a z with y|y
               . exact noS a (by simp[y])
               . exact y.2) (fun a o hn h=>by rw[bP (fun z=>hn (by rw[z];simp))];exact wg.g _ _ h) fun a h=>by
           rcases wg.new a h with z|z
           . exact .inl z
           . exact .inr (.inl z)
        exact⟨_,J3⟩
       have hlts:ts.length=ks.length:=by rw[<- rs.length,<- hk];simp
       split at p
       . rename_i hc;obtain⟨k,h1,h2,h3,h4⟩:=BR hlts (by simpa using hc);obtain⟨k1,k2⟩:=Ir (y:=v) hk h2 h1;obtain⟨w3,g1,rest3,e3,r3,p3,c3⟩:=rs.at (k:=k) (u:=ts[k]) (by simp[h3])
         obtain⟨g,rg,pg⟩:=c3 S2 H2 x v fx wg.s rx fun a _ o h=>wg.g _ _ h
         have inff:∀ a∈rest3,a∈ff:=fun a ha=>p3.mem_iff.mpr (List.mem_append_right _ ha)
         have ndr:rest3.Nodup:=(List.nodup_append.mp (p3.nodup_iff.mp ndf)).2.1
         have ndg:g.Nodup:=pg.nodup_iff.mpr (List.nodup_append.mpr ⟨nx,ndr,fun a ha b hb z=>by
          subst z;obtain⟨o,h1,_⟩:=rs.live a (inff a hb)
          rw[(gx a ha).1]at h1;cases h1⟩)
         have q1:=fin ks (ts.set k x) g k1 (by rw[k2];exact rg) ndg fun a ha=>by
          rcases List.mem_append.mp (pg.mem_iff.mp ha)with z|z
          . exact .inr (gx a z)
          . exact .inl (inff a z)
         rw[h4]at p;exact p σ S2 _ q1 wg.s
       . rename_i hc
         have hn:f∉us.map (·.1):=by rw[hk];simpa using hc
         have e2:=Fs (y:=v) hn
         have ndg:(ff++(fx++[])).Nodup:=by
          rw[List.append_nil]
          exact List.nodup_append.mpr ⟨ndf,nx,fun a ha b hb z=>by
           subst z;obtain⟨o,h1,_⟩:=rs.live a ha
           rw[(gx a hb).1]at h1;cases h1⟩
         have q1:=fin (ks++[f]) (ts++[x]) (ff++(fx++[])) (by rw[e2];simp[hk]) (by rw[e2,List.map_append];exact(rs.mono wg.s fun a _ o h=>wg.g _ _ h).append (.cons rx .nil)) ndg fun a ha=>by
          rw[List.append_nil]at ha
          rcases List.mem_append.mp ha with z|z
          . exact .inl z
          . exact .inr (gx a z)
         exact p σ S2 _ q1 wg.s
     . exact p.elim
end
open Classical in
noncomputable def minus(H:Hp)(Fc:Nat->List Addr):Hp:=fun a=>if ∃ k,a∈Fc k then none else H a
section
variable{K:PySem.W.Frag}{cls:String->Option Addr}{W:XW}{Av G S₀ S S' H H' B B':Hp}{ρ:ag}{σ:St}{Q:VK}{F Fc Fc':Nat->List Addr}
theorem A5(h:a∈Fc k):minus H Fc a=none:=by unfold minus;rw[if_pos ⟨k,h⟩]
theorem j6(h:∀ k,a∉Fc k):minus H Fc a=H a:=by unfold minus;rw[if_neg (fun ⟨k,z⟩=>h k z)]
theorem vX:aK (minus H Fc) H:=fun b u h=>by
 unfold minus at h;split at h
 . cases h
 . exact h
theorem oq(h:minus H Fc a=none):H a=none \/ ∃ k,a∈Fc k:=by
 unfold minus at h;split at h
 . rename_i z;exact .inr z
 . exact .inl h
noncomputable def N1(K:PySem.W.Frag)(cls:String->Option Addr)(S H Hm:Hp):Sl->V->List Addr->Prop
 |.sh x,v,fp=>fp=[] /\ Rep K S x v
 |.tr true t,v,fp=>bz K cls S H t v fp /\ fp.Nodup
 |.bo t,v,fp=>fp=[] /\ ∃ f,bz K cls S Hm t v f
 |_,_,_=>False
structure GK(K:PySem.W.Frag)(cls:String->Option Addr)(vs:List V)(S H:Hp)(Fc:Nat->List Addr)(outs:List (Option OV))(S' H':Hp)(Fc':Nat->List Addr):Prop where
 s:aK S S'
 sh:aK S' H'
 keep:aK (minus H Fc) H'
 new:∀ b,S' b≠none->S b≠none \/ H b=none \/ ∃ k,b∈Fc k
 out:∀ k t',outs[k]?=some (some t')->∃ u,vs[k]?=some u /\ bz K cls S' H' t' u (Fc' k) /\ (Fc' k).Nodup
 apart:∀ j k a,a∈Fc' j->a∈Fc' k->j=k
 live:∀ k a,a∈Fc' k->minus H Fc a=none /\ S' a=none
noncomputable def M9(K:PySem.W.Frag)(cls:String->Option Addr)(vs:List V)(S H:Hp)(Fc:Nat->List Addr)(Q:VK)(E:XK):OI->Prop
 |.ok x outs=>∀ v S' H' Fc',GK K cls vs S H Fc outs S' H' Fc'->Rep K S' x v->Q v H'
 |.exc c fs outs=>∀ a C S' H' Fc',GK K cls vs S H Fc outs S' H' Fc'->qo K cls S' H' c fs a C->E (.ref C) (some a) H'
 |.bad=>False
structure GI(K:PySem.W.Frag)(cls:String->Option Addr)(as:List Sl)(vs:List V)(S H:Hp)(Fc:Nat->List Addr):Prop where
 sh:aK S H
 len:as.length=vs.length
 rel:∀(k:Nat) (s:Sl),as[k]?=some s->∃ v,vs[k]?=some v /\ N1 K cls S H (minus H Fc) s v (Fc k)
 apart:∀ j k a,a∈Fc j->a∈Fc k->j=k
 live:∀ k a,a∈Fc k->(∃ o,H a=some o /\ isX o=false) /\ S a=none
noncomputable def spI(K:PySem.W.Frag)(cls:String->Option Addr)(f:List Sl->OI):Sp:=fun vs H Q E=>∃ S as Fc,GI K cls as vs S H Fc /\ M9 K cls vs S H Fc Q E (f as)
theorem G8{as:List Sl}{vs:List V}{N:List Str}{i:Nat}{s:Sl}(hl:as.length=vs.length)(e:(lg N.length as)[i]?=some (some s)):as[i]?=some s /\ (L2.start N vs)[i]?=some ((vs[i]?)):=by
 unfold lg at e
 by_cases hi:i<as.length
 . rw[List.getElem?_append_left (by simpa using hi),List.getElem?_map]at e
   have hx:as[i]?=some as[i]:=by simp[hi]
   rw[hx]at e;cases e
   refine⟨hx,?_⟩
   unfold L2.start;rw[List.getElem?_append_left (by rw[List.length_map,<- hl];exact hi),List.getElem?_map]
   have hv:vs[i]?=some (vs[i]'(by rw[<- hl];exact hi)):=by simp[<- hl,hi]
   rw[hv];rfl
 . rw[List.getElem?_append_right (by simpa using hi)]at e;rw[List.getElem?_replicate]at e
   split at e<;>cases e
noncomputable def EL(vs:List V):Hp:=fun i=>(vs[i]?).map fun v=>.lst [v]
theorem SR.Lb{ρ':ag}(A:aK S H)(I:SR K cls (EL vs) (minus H Fc) S ρ' σ' S' H'):∃ Fc',GK K cls vs S H Fc ((ρ'.take np).map qC) S' H' Fc':=by
 obtain⟨F,J⟩:=I
 refine⟨F,J.s0,J.sh,J.gh,fun b h=>?_,fun k t' e=>?_,J.apart,fun k a ha=>(J.live k a ha).2⟩
 . rcases J.new b h with z|z
   . exact .inl z
   . rcases oq z with y|y
     . exact .inr (.inl y)
     . exact .inr (.inr y)
 . rw[List.getElem?_map]at e;obtain⟨s,e1,e2⟩:=Option.map_eq_some_iff.mp e
   have e3:ρ'[k]?=some s:=by
    rw[List.getElem?_take]at e1;split at e1
    . exact e1
    . cases e1
   cases s with
   |none=>cases e2
   | some s=>
     cases s with
     | tr io t=>
       cases io with
       |false=>cases e2
       | true=>
         cases e2;obtain⟨v,ev,ro,nd,_,hio⟩:=J.own k _ e3;have:=hio rfl;unfold EL at this;obtain⟨u,eu,e4⟩:=Option.map_eq_some_iff.mp this;cases e4
         exact⟨v,eu,ro,nd⟩
     |sh x=>cases e2
     |ow x=>cases e2
     |ex c fs=>cases e2
     |bo t=>cases e2
theorem we{P:Program}{w:World}{mg:Str->Option Value}{base:Heap}{x qual:Str}{st:Stmt}{f:Addr}{fd:FuncData}{N ps:List Str}{k:Nat}{m:ag->OS}(Fn:Fun K x qual st f fd)(Sc:aT N ps (aA st))
  (hbody:∀(cdv:Value) (A:Around) (outer:List Env) (s:Shared) (H:Hp) (E:XK),iK k (A.deeper (envOfC qual (aA st) s.heap.objs.size f cdv)) ->
    ∃ t,QSs (uq (CXE P w) P w K mg base N qual (aA st) f cdv A outer s H E) (dO st) t /\ JS K cls (fun C a _ H=>∀ H',aK H H'->E C a H') t m):cx P w K mg base (CXE P w) (k+1) f fd ps (spI K cls (fnI ps.length N.length m)):=by
 refine okX Fn Sc (fun vs H Q E h=>?_) fun cdv A outer s H vs Q E hr h=>?_
 . obtain⟨S,as,Fc,a,q⟩:=h;unfold fnI at q;split at q
   . rw[<- a.len];assumption
   . exact q.elim
 . obtain⟨S,as,Fc,a,q⟩:=h;unfold fnI at q;split at q
   . rename_i hl;obtain⟨t,ht,J⟩:=hbody cdv A outer s H E hr
     refine⟨t,ht.out,?_⟩
     have start:SR K cls (EL vs) (minus H Fc) S (lg N.length as) (L2.start N vs) S H:=by
      refine⟨Fc,vX,aK.refl _,a.sh,fun _ z=>.inl z,fun i s e=>?_,a.apart,fun i b hb=>⟨(a.live i b hb).1,A5 hb,(a.live i b hb).2⟩,?_⟩
      . obtain⟨e1,e2⟩:=G8 a.len e;obtain⟨v,ev,r⟩:=a.rel i s e1;rw[ev]at e2
        refine⟨v,e2,?_⟩
        cases s with
        |sh x=>exact r
        |ow x=>exact r.elim
        |ex c fs=>exact r.elim
        | tr io t=>
          cases io with
          |false=>exact r.elim
          |true=>exact⟨r.1,r.2,fun b hb=>⟨A5 hb,(a.live i b hb).2⟩,fun _=>by unfold EL;rw[ev];rfl⟩
        |bo t=>exact r
      . unfold lg L2.start;simp[a.len]
     refine J (EL vs) (minus H Fc) S (lg N.length as) (L2.start N vs) S H _ start ?_
     cases e:m (lg N.length as)with
     |nx ρ'=>rw[e]at q;exact fun σ' S' H' I' s'=>let ⟨Fc',E'⟩:=I'.Lb (np:=ps.length) a.sh;q .non S' H' Fc' E' (by unfold Rep;rfl)
     |bk ρ'=>rw[e]at q;exact q.elim
     |ct ρ'=>rw[e]at q;exact q.elim
     |bad=>rw[e]at q;exact q.elim
     | rt ρ' r=>
       rw[e]at q
       cases r with
       |al ys=>exact q.elim
       |fr ys=>exact q.elim
       |sh y=>exact fun v σ' S' H' I' s' rr=>let ⟨Fc',E'⟩:=I'.Lb (np:=ps.length) a.sh;q v S' H' Fc' E' rr
     | exc ρ' c fs=>
       rw[e]at q
       exact fun b C σ' S' H' I' s' x H2 g2=>let ⟨Fc',E'⟩:=(I'.same g2).Lb (np:=ps.length) a.sh;q b C S' H2 Fc' E' (x.mono (aK.refl _) g2)
   . exact q.elim
noncomputable def AR1(K:PySem.W.Frag)(S H:Hp)(ρ:ag)(σ:St):Arg->Sl->V->Prop
 |.e _,.sh x,v=>Rep K S x v
 |.t i mp,.tr true u,v=>∃ io t π v0,ρ[i]?=some (some (.tr io t)) /\ mp ρ=some π /\ t.get π=some u /\ σ[i]?=some (some v0) /\ kH H v0 π v
 |.b i mp,.bo u,v=>∃ t π v0,gB i ρ=some t /\ mp ρ=some π /\ t.get π=some u /\ σ[i]?=some (some v0) /\ kH H v0 π v
 |_,_,_=>False
noncomputable def ARs(K:PySem.W.Frag)(S H:Hp)(ρ:ag)(σ:St):List Arg->List Sl->List V->Prop
 |[],ss,vs=>ss=[] /\ vs=[]
 |a ::as,ss,vs=>∃ s sr v vr,ss=s ::sr /\ vs=v ::vr /\ AR1 K S H ρ σ a s v /\ ARs K S H ρ σ as sr vr
theorem AR1.mono(h:AR1 K S H ρ σ a s v)(s1:aK S S')(g:aK H H'):AR1 K S' H' ρ σ a s v:=by
 cases a with
 |e me=>cases s<;>first|exact h.elim|exact Rep.mono s1 h
 | t i mp=>
   cases s with
   | tr io u=>
     cases io with
     |false=>exact h.elim
     |true=>obtain⟨io,t,π,v0,h1,h2,h3,h4,h5⟩:=h;exact⟨io,t,π,v0,h1,h2,h3,h4,h5.mono g⟩
   |_=>exact h.elim
 | b i mp=>
   cases s with
   |bo u=>obtain⟨t,π,v0,h1,h2,h3,h4,h5⟩:=h;exact⟨t,π,v0,h1,h2,h3,h4,h5.mono g⟩
   |_=>exact h.elim
theorem ARs.at:∀{ss:List Sl} {vs:List V} {k:Nat} {a:Arg},ARs K S H ρ σ as ss vs->as[k]?=some a->∃ s v,ss[k]?=some s /\ vs[k]?=some v /\ AR1 K S H ρ σ a s v:=by
 induction as with
 |nil=>intro ss vs k a _ e;simp at e
 | cons b as ih=>
   rintro ss vs k a ⟨s,sr,v,vr,rfl,rfl,h1,h2⟩ e
   cases k with
   |zero=>simp at e;subst e;exact⟨s,v,rfl,rfl,h1⟩
   |succ k=>simp at e;obtain⟨s',v',e1,e2,r⟩:=ih h2 e;exact⟨s',v',by simpa using e1,by simpa using e2,r⟩
theorem ARs.len{as:List Arg}:∀{ss:List Sl} {vs:List V},ARs K S H ρ σ as ss vs->ss.length=as.length /\ vs.length=as.length:=by
 induction as with
 |nil=>intro ss vs h;rw[h.1,h.2];exact⟨rfl,rfl⟩
 | cons b as ih=>
   rintro ss vs ⟨s,sr,v,vr,rfl,rfl,h1,h2⟩
   have:=ih h2;simp[this]
noncomputable def JAI(K:PySem.W.Frag)(cls:String->Option Addr)(t:TA)(as:List Arg):Prop:=∀ Av G S₀ ρ σ S H Q ss,SR K cls Av G S₀ ρ σ S H->jT as ρ=some ss->(∀ vs S' H',bj S H S' H'->ARs K S' H' ρ σ as ss vs->Q vs H')->t σ H Q
noncomputable def JA1(K:PySem.W.Frag)(cls:String->Option Addr)(te:TE)(a:Arg):Prop:=∀ Av G S₀ ρ σ S H Q s,SR K cls Av G S₀ ρ σ S H->nC a ρ=some s->(∀ v S' H',bj S H S' H'->AR1 K S' H' ρ σ a s v->Q v H')->te σ H Q
theorem CB{me:ag->OE}(h:JE K cls W te me):JA1 K cls te (.e me):=by
 intro Av G S₀ ρ σ S H Q s I e k;unfold nC at e
 dsimp only at e
 refine h Av G S₀ ρ σ S H Q I ?_
 cases em:me ρ with
 |exc c fs=>rw[em]at e;cases e
 |bad=>rw[em]at e;cases e
 | ok r=>
   rw[em]at e;obtain⟨x,e1,rfl⟩:=Option.map_eq_some_iff.mp e;intro v S1 H1 w1 r1;obtain⟨S2,w2,s2,rx⟩:=r1.share w1 e1;exact k v S2 H1 w2 rx
theorem qO(h:JP K cls te i mp):JA1 K cls te (.t i mp):=by
 intro Av G S₀ ρ σ S H Q s I e k;unfold nC at e
 dsimp only at e
 split at e
 . rename_i io t hi;obtain⟨u,e1,rfl⟩:=Option.map_eq_some_iff.mp e;obtain⟨π,e2,e3⟩:=Option.bind_eq_some_iff.mp e1;obtain⟨v0,hv⟩:=I.val hi
   exact h.at I hi hv e2 e3 fun w S1 H1 w1 I1 wk=>k w S1 H1 w1 ⟨io,t,π,v0,hi,e2,e3,hv,wk⟩
 . cases e
theorem Jg(h:JP K cls te i mp):JA1 K cls te (.b i mp):=by
 intro Av G S₀ ρ σ S H Q s I e k;unfold nC at e
 dsimp only at e
 obtain⟨u,e1,rfl⟩:=Option.map_eq_some_iff.mp e;unfold subAt at e1;split at e1
 . rename_i t et;split at e1
   . rename_i π eπ;obtain⟨v0,fp,hv,_⟩:=I.tree et
     exact h Av G S₀ ρ σ S H Q v0 t π I et hv eπ (by rw[e1];rfl) fun w S1 H1 w1 wk=>k w S1 H1 w1 ⟨t,π,v0,et,eπ,e1,hv,wk⟩
   . cases e1
 . cases e1
theorem oV:JAI K cls mG []:=by
 intro Av G S₀ ρ σ S H Q ss I e k;cases e;exact k [] S H (bj.refl I.sh) ⟨rfl,rfl⟩
theorem fS(h:JA1 K cls te a)(r:JAI K cls t as):JAI K cls (jx te t) (a ::as):=by
 intro Av G S₀ ρ σ S H Q ss I e k;unfold jT at e;obtain⟨s,e1,e2⟩:=Option.bind_eq_some_iff.mp e;obtain⟨sr,e3,rfl⟩:=Option.map_eq_some_iff.mp e2
 refine h Av G S₀ ρ σ S H _ s I e1 fun v S1 H1 w1 h1=>?_
 refine r Av G S₀ ρ σ S1 H1 _ sr (I.grow w1) e3 fun vs S2 H2 w2 h2=>?_
 exact k (v ::vs) S2 H2 (w1.trans w2) ⟨s,sr,v,vs,rfl,rfl,h1.mono w2.s w2.g,h2⟩
end
section
variable{K:PySem.W.Frag}{cls:String->Option Addr}{W:XW}{Av G S₀ S S' H H' B B':Hp}{ρ:ag}{σ:St}{Q:VK}{F Fc Fc':Nat->List Addr}
noncomputable def dy:List Arg->List Nat
 |[]=>[]
 |.t i _ ::as=>i ::dy as
 |_ ::as=>dy as
noncomputable def uy:List Arg->List Nat
 |[]=>[]
 |.b i _ ::as=>i ::uy as
 |_ ::as=>uy as
noncomputable def argsOk(as:List Arg):Bool:=decide (dy as).Nodup&&(uy as).all fun i=>!(dy as).contains i
theorem gU{as:List Arg}{k i:Nat}{mp:MP}(h:as[k]?=some (.t i mp)):i∈dy as:=by
 induction as generalizing k with
 |nil=>simp at h
 | cons a as ih=>
   cases k with
   |zero=>simp at h;subst h;simp[dy]
   | succ k=>
     simp at h;have:=ih h
     cases a<;>simp[dy,this]
theorem Bt{as:List Arg}{k i:Nat}{mp:MP}(h:as[k]?=some (.b i mp)):i∈uy as:=by
 induction as generalizing k with
 |nil=>simp at h
 | cons a as ih=>
   cases k with
   |zero=>simp at h;subst h;simp[uy]
   | succ k=>
     simp at h;have:=ih h
     cases a<;>simp[uy,this]
theorem o4{as:List Arg}(nd:(dy as).Nodup){j k i:Nat}{mp mp':MP}(h:as[j]?=some (.t i mp))(h':as[k]?=some (.t i mp')):j=k:=by
 induction as generalizing j k with
 |nil=>simp at h
 | cons a as ih=>
   cases j with
   | zero=>
     simp at h;subst h
     cases k with
     |zero=>rfl
     | succ k=>
       simp at h';have:=gU h';simp[dy]at nd;exact absurd this nd.1
   | succ j=>
     cases k with
     | zero=>
       simp at h';subst h';simp at h;have:=gU h;simp[dy]at nd;exact absurd this nd.1
     | succ k=>
       simp at h h'
       have nd':(dy as).Nodup:=by
        cases a with
        |t i' mp=>simp[dy]at nd;exact nd.2
        |e me=>exact nd
        |b i' mp=>exact nd
       rw[ih nd' h h']
theorem uI{as:List Arg}{i:Nat}(h:i∈dy as):∃(k:Nat) (mp:MP),as[k]?=some (.t i mp):=by
 induction as with
 |nil=>simp[dy]at h
 | cons a as ih=>
   cases a with
   | t j mp=>
     simp[dy]at h
     rcases h with h|h
     . subst h;exact⟨0,mp,rfl⟩
     . obtain⟨k,mp',e⟩:=ih h;exact⟨k+1,mp',by simpa using e⟩
   |e me=>obtain⟨k,mp',e⟩:=ih h;exact⟨k+1,mp',by simpa using e⟩
   |b j mp=>obtain⟨k,mp',e⟩:=ih h;exact⟨k+1,mp',by simpa using e⟩
theorem u0{as:List Arg}{ρ₀:ag}:∀{us:List (Option OV)} {ρ:ag} {i:Nat},i∉dy as->(fQ ρ₀ as us ρ)[i]?=ρ[i]?:=by
 induction as with
 |nil=>intro us ρ i _;rfl
 | cons a as ih=>
   intro us ρ i h;unfold fQ
   cases a with
   |e me=>rw[ih h];rfl
   |b j mp=>rw[ih h];rfl
   | t j mp=>
     simp[dy]at h;rw[ih h.2]
     have:∀ x:Option Sl,(ρ.set j x)[i]?=ρ[i]?:=fun x=>List.getElem?_set_ne (Ne.symm h.1)
     cases us.head?.join with
     |none=>exact this _
     | some u=>
       unfold kY;dsimp only;split
       . split
         . exact this _
         . exact this _
       . exact this _
theorem B8{as:List Arg}{ρ₀:ag}:∀{us:List (Option OV)} {ρ:ag} {i k:Nat} {mp:MP} {s:Sl},(dy as).Nodup->as[k]?=some (.t i mp)->(fQ ρ₀ as us ρ)[i]?=some (some s) ->
  ∃ io t π u,us[k]?=some (some u) /\ ρ[i]?=some (some (.tr io t)) /\ mp ρ₀=some π /\ s=.tr io (t.put π u):=by
 induction as with
 |nil=>intro us ρ i k mp s _ h;simp at h
 | cons a as ih=>
   intro us ρ i k mp s nd h e;unfold fQ at e
   cases k with
   | zero=>
     simp at h;subst h;simp[dy]at nd;rw[u0 nd.1]at e
     cases us with
     | nil=>
       unfold kY at e;simp at e;rw[List.getElem?_set]at e;simp at e
     | cons u us=>
       cases u with
       | none=>
         unfold kY at e;simp at e;rw[List.getElem?_set]at e;simp at e
       | some u=>
         unfold kY at e;simp only[List.head?_cons,Option.join_some]at e;split at e
         . rename_i io t hi;split at e
           . rename_i π hπ;rw[List.getElem?_set]at e;simp at e
             exact⟨io,t,π,u,rfl,hi,hπ,e.2.symm⟩
           . rw[List.getElem?_set]at e;simp at e
         . rw[List.getElem?_set]at e;simp at e
   | succ k=>
     simp at h
     have nd':(dy as).Nodup:=by
      cases a with
      |t i' mp=>simp[dy]at nd;exact nd.2
      |e me=>exact nd
      |b i' mp=>exact nd
     obtain⟨io,t,π,u,e1,e2,e3,e4⟩:=ih nd' h e
     refine⟨io,t,π,u,?_,?_,e3,e4⟩
     . cases us with
       |nil=>simp at e1
       |cons _ us=>simpa using e1
     . cases a with
       |e me=>exact e2
       |b j mp=>exact e2
       | t j mp'=>
         have hij:i≠j:=by
          intro z;subst z;simp[dy]at nd;exact nd.1 (gU h)
         have:∀ x:Option Sl,(ρ.set j x)[i]?=ρ[i]?:=fun x=>List.getElem?_set_ne (Ne.symm hij)
         cases q:us.head?.join with
         |none=>rw[q]at e2;unfold kY at e2;simp only at e2;rw[this]at e2;exact e2
         | some u=>
           rw[q]at e2;unfold kY at e2;simp only at e2;split at e2
           . split at e2
             . rw[this]at e2;exact e2
             . rw[this]at e2;exact e2
           . rw[this]at e2;exact e2
theorem AZ{as:List Arg}{ρ₀:ag}:∀{us:List (Option OV)} {ρ:ag},(fQ ρ₀ as us ρ).length=ρ.length:=by
 induction as with
 |nil=>intro us ρ;rfl
 | cons a as ih=>
   intro us ρ;unfold fQ;rw[ih];unfold kY;split
   . split
     . split<;>simp
     . simp
   . simp
   . rfl
theorem SR.MJ{as:List Arg}{ss:List Sl}{vs:List V}(I:SR K cls Av G S₀ ρ σ S H)(ok:argsOk as=true)(h:ARs K S H ρ σ as ss vs):
  ∃ Fc,GI K cls ss vs S H Fc /\ ∀ outs S' H' Fc',GK K cls vs S H Fc outs S' H' Fc'->SR K cls Av G S₀ (fQ ρ as outs ρ) σ S' H':=by
 obtain⟨F,J⟩:=I;unfold argsOk at ok;rw[Bool.and_eq_true,decide_eq_true_eq]at ok;obtain⟨nd,hb⟩:=ok
 have cell:∀ k:Nat,∃ d:List Addr×List Addr,(∀ i mp,as[k]?=some (.t i mp)->∃ io t π u v0 w,ss[k]?=some (.tr true u) /\ vs[k]?=some w /\ ρ[i]?=some (some (.tr io t)) /\ mp ρ=some π /\ t.get π=some u /\ σ[i]?=some (some v0) /\ bz K cls S H u w d.1 /\ (F i).Perm (d.1++d.2) /\ (d.1++d.2).Nodup /\ (io=true->Av i=some (.lst [v0])) /\
   ∀ S' H' u' f',aK S S'->bz K cls S' H' u' w f'->(∀ a∈d.2,∀ o,H a=some o->H' a=some o)->∃ g,bz K cls S' H' (t.put π u') v0 g /\ g.Perm (f'++d.2)) /\ ((∀ i mp,as[k]?≠some (.t i mp))->d=([],[])):=by
  intro k
  by_cases hk:∃ i mp,as[k]?=some (.t i mp)
  . obtain⟨i,mp,e⟩:=hk;obtain⟨s,w,es,ev,r⟩:=h.at e
    cases s with
    | tr io' u=>
      cases io' with
      |false=>exact r.elim
      | true=>
        obtain⟨io,t,π,v0,h1,h2,h3,h4,h5⟩:=r;obtain⟨v,ev',ro,ndf,gs,hio⟩:=J.own i _ h1;rw[h4]at ev';cases ev';obtain⟨w',f1,rest,wk,r1,p1,c1⟩:=ro.focus h3;have:=h5.inj wk;subst this
        refine⟨(f1,rest),fun i' mp' e'=>?_,fun z=>absurd e (z i mp)⟩
        rw[e]at e'
        cases e'
        exact⟨io,t,π,u,v0,w,es,ev,h1,h2,h3,h4,r1,p1,p1.nodup_iff.mp ndf,hio,c1⟩
    |sh x=>exact r.elim
    |ow x=>exact r.elim
    |ex c fs=>exact r.elim
    |bo x=>exact r.elim
  . exact⟨([],[]),fun i mp e=>absurd ⟨i,mp,e⟩ hk,fun _=>rfl⟩
 obtain⟨d,hd⟩:=Classical.axiomOfChoice cell
 have tOf:∀ k a,a∈(d k).1->∃ i mp,as[k]?=some (.t i mp) /\ a∈F i:=by
  intro k a ha
  by_cases hk:∃ i mp,as[k]?=some (.t i mp)
  . obtain⟨i,mp,e⟩:=hk;obtain⟨io,t,π,u,v0,w,_,_,_,_,_,_,_,p1,_⟩:=(hd k).1 i mp e
    exact⟨i,mp,e,p1.mem_iff.mpr (List.mem_append_left _ ha)⟩
  . rw[(hd k).2 fun i mp e=>hk ⟨i,mp,e⟩]at ha;cases ha
 have hlen:=h.len
 have vk:∀ i a,a∈F i->(∀ k mp,as[k]?=some (.t i mp)->a∉(d k).1)->∀ k,a∉(d k).1:=by
  intro i a ha hn k hk;obtain⟨i',mp,e,ha'⟩:=tOf k a hk;have:=J.apart i i' a ha ha';subst this;exact hn k mp e hk
 refine⟨fun k=>(d k).1,⟨J.sh,by rw[hlen.1,hlen.2],fun k s es=>?_,fun j k a h1 h2=>?_,fun k a ha=>?_⟩,fun outs S' H' Fc' E=>?_⟩
 . have hk:k<as.length:=by rw[<- hlen.1];exact(List.getElem?_eq_some_iff.mp es).1
   obtain⟨s',w,es',ev,r⟩:=h.at (k:=k) (a:=as[k]) (by simp[hk]);rw[es]at es';cases es'
   refine⟨w,ev,?_⟩
   cases q:as[k]with
   | e me=>
     rw[q]at r
     have hz:=(hd k).2 fun i mp e=>by rw[List.getElem?_eq_getElem hk,q]at e;cases e
     cases s<;>first|exact r.elim|exact⟨by rw[hz],r⟩
   | t i mp=>
     have eq:as[k]?=some (.t i mp):=by rw[List.getElem?_eq_getElem hk,q]
     obtain⟨io,t,π,u,v0,w',es',ev',_,_,_,_,r1,_,nd1,_⟩:=(hd k).1 i mp eq;rw[es]at es';cases es';rw[ev]at ev';cases ev'
     exact⟨r1,(List.nodup_append.mp nd1).1⟩
   | b i mp=>
     have eq:as[k]?=some (.b i mp):=by rw[List.getElem?_eq_getElem hk,q]
     rw[q]at r
     have hz:=(hd k).2 fun i mp e=>by rw[eq]at e;cases e
     cases s with
     | bo u=>
       obtain⟨t,π,v0,h1,h2,h3,h4,h5⟩:=r
       refine⟨by rw[hz],?_⟩
       have nt:i∉dy as:=by
        have:=List.all_eq_true.mp hb i (Bt eq)
        simpa using this
       have ro:∃ f,bz K cls S (minus H fun k=>(d k).1) t v0 f:=by
        unfold gB at h1
        cases q1:ρ[i]? with
        |none=>rw[q1]at h1;cases h1
        | some o=>
          cases o with
          |none=>rw[q1]at h1;cases h1
          | some s1=>
            rw[q1]at h1;obtain⟨v,ev',r⟩:=J.own i s1 q1;rw[h4]at ev';cases ev'
            cases s1 with
            | tr io t'=>
              cases h1
              exact⟨_,r.1.mono (aK.refl _) fun a ha o ho=>by
               rw[j6 (vk i a ha fun k' mp' e'=>absurd (gU e') nt)];exact ho⟩
            | bo t'=>
              cases h1;obtain⟨_,f,r⟩:=r
              exact⟨f,r.mono (aK.refl _) fun a ha o ho=>by
               rw[j6 fun k' hk'=>?_]
               . exact J.gh _ _ ho
               . obtain⟨i',mp',_,ha'⟩:=tOf k' a hk'
                 rw[(J.live i' a ha').2.1]at ho;cases ho⟩
            |sh x=>cases h1
            |ow x=>cases h1
            |ex c fs=>cases h1
       obtain⟨f,ro⟩:=ro;obtain⟨w',f1,rest,wk,r1,_,_⟩:=ro.focus h3;have:=h5.inj (wk.mono vX);subst this
       exact⟨f1,r1⟩
     |sh x=>exact r.elim
     |ow x=>exact r.elim
     |ex c fs=>exact r.elim
     |tr io x=>exact r.elim
 . obtain⟨i,mp,e1,m1⟩:=tOf j a h1;obtain⟨i',mp',e2,m2⟩:=tOf k a h2;have:=J.apart i i' a m1 m2;subst this;exact o4 nd e1 e2
 . obtain⟨i,mp,e1,m1⟩:=tOf k a ha
   exact⟨(J.live i a m1).1,(J.live i a m1).2.2⟩
 .
  have noS:∀ i a,a∈F i->(∀ k,a∉(d k).1)->S' a=none:=fun i a ha hn=>by
   cases z:S' a with
   |none=>rfl
   | some o=>
     obtain⟨⟨o',h1,_⟩,_,h3⟩:=J.live i a ha
     rcases E.new a (by rw[z];simp)with y|y|⟨k,y⟩
     . exact absurd h3 y
     . rw[h1]at y;cases y
     . exact absurd y (hn k)
  have keep:∀ a o,(∀ k,a∉(d k).1)->H a=some o->H' a=some o:=fun a o hn ho=>E.keep a o (by rw[j6 hn];exact ho)
  have restOff:∀ k i mp,as[k]?=some (.t i mp)->∀ a∈(d k).2,a∈F i /\ ∀ k',a∉(d k').1:=fun k i mp e a ha=>by
   obtain⟨io,t,π,u,v0,w,_,_,_,_,_,_,_,p1,nd1,_⟩:=(hd k).1 i mp e
   have m:a∈F i:=p1.mem_iff.mpr (List.mem_append_right _ ha)
   refine⟨m,vk i a m fun k' mp' e' hk'=>?_⟩
   have:=o4 nd e e';subst this
   exact(List.nodup_append.mp nd1).2.2 a hk' a ha rfl
  have gcell:∀ k:Nat,∃ g:List Addr,∀ i mp u',as[k]?=some (.t i mp)->outs[k]?=some (some u')->∀ io t π,ρ[i]?=some (some (.tr io t))->mp ρ=some π->∃ v0,σ[i]?=some (some v0) /\ (io=true->Av i=some (.lst [v0])) /\ bz K cls S' H' (t.put π u') v0 g /\ g.Perm (Fc' k++(d k).2):=by
   intro k
   by_cases hk:∃ i mp u',as[k]?=some (.t i mp) /\ outs[k]?=some (some u')
   . obtain⟨i,mp,u',e,eo⟩:=hk;obtain⟨io,t,π,u,v0,w,es,ev,h1,h2,h3,h4,r1,p1,nd1,hio,c1⟩:=(hd k).1 i mp e;obtain⟨w',ew,r',ndf'⟩:=E.out k u' eo;rw[ev]at ew;cases ew
     obtain⟨g,rg,pg⟩:=c1 S' H' u' (Fc' k) E.s r' fun a ha o ho=>keep a o (restOff k i mp e a ha).2 ho
     refine⟨g,fun i' mp' u'' e' eo' io' t' π' h1' h2'=>?_⟩
     rw[e]at e';cases e';rw[eo]at eo';cases eo';rw[h1]at h1';cases h1';rw[h2]at h2';cases h2'
     exact⟨v0,h4,hio,rg,pg⟩
   . exact⟨[],fun i mp u' e eo=>absurd ⟨i,mp,u',e,eo⟩ hk⟩
  obtain⟨g,hg⟩:=Classical.axiomOfChoice gcell
  have fcell:∀ i:Nat,∃ f:List Addr,(i∉dy as->f=F i) /\ ∀ k mp,as[k]?=some (.t i mp)->((∃ io t π u',ρ[i]?=some (some (.tr io t)) /\ mp ρ=some π /\ outs[k]?=some (some u'))->f=g k) /\ ((¬ ∃ io t π u',ρ[i]?=some (some (.tr io t)) /\ mp ρ=some π /\ outs[k]?=some (some u'))->f=[]):=by
   intro i
   by_cases hi:i∈dy as
   . obtain⟨k,mp,e⟩:=uI hi
     by_cases hx:∃ io t π u',ρ[i]?=some (some (.tr io t)) /\ mp ρ=some π /\ outs[k]?=some (some u')
     . refine⟨g k,fun z=>absurd hi z,fun k' mp' e'=>?_⟩
       have:=o4 nd e e';subst this;rw[e]at e';cases e'
       exact⟨fun _=>rfl,fun z=>absurd hx z⟩
     . refine⟨[],fun z=>absurd hi z,fun k' mp' e'=>?_⟩
       have:=o4 nd e e';subst this;rw[e]at e';cases e'
       exact⟨fun z=>absurd z hx,fun _=>rfl⟩
   . exact⟨F i,fun _=>rfl,fun k mp e=>absurd (gU e) hi⟩
  obtain⟨F',hF'⟩:=Classical.axiomOfChoice fcell
  have memF:∀ i a,a∈F' i->(i∉dy as /\ a∈F i /\ ∀ k,a∉(d k).1) \/ (∃ k mp,as[k]?=some (.t i mp) /\ F' i=g k /\ ((a∈Fc' k) \/ (a∈F i /\ ∀ k,a∉(d k).1)) /\ ∃ io t π u',ρ[i]?=some (some (.tr io t)) /\ mp ρ=some π /\ outs[k]?=some (some u')):=by
   intro i a ha
   by_cases hi:i∈dy as
   . obtain⟨k,mp,e⟩:=uI hi
     by_cases hx:∃ io t π u',ρ[i]?=some (some (.tr io t)) /\ mp ρ=some π /\ outs[k]?=some (some u')
     . have e1:=((hF' i).2 k mp e).1 hx;refine .inr ⟨k,mp,e,e1,?_,hx⟩;obtain⟨io,t,π,u',h1,h2,h3⟩:=hx;obtain⟨v0,_,_,rg,pg⟩:=hg k i mp u' e h3 io t π h1 h2;rw[e1]at ha
       rcases List.mem_append.mp (pg.mem_iff.mp ha)with z|z
       . exact .inl z
       . exact .inr (restOff k i mp e a z)
     . rw[((hF' i).2 k mp e).2 hx]at ha;cases ha
   . have e1:=(hF' i).1 hi;rw[e1]at ha;exact .inl ⟨hi,ha,vk i a ha fun k mp e=>absurd (gU e) hi⟩
  refine⟨F',?_,J.s0.trans E.s,E.sh,fun b hbn=>?_,fun i s e=>?_,fun i j a h1 h2=>?_,fun i a ha=>?_,?_⟩
  . intro b u hu;refine keep b u (fun k hk=>?_) (J.gh b u hu);obtain⟨i,mp,_,m⟩:=tOf k b hk;rw[(J.live i b m).2.1]at hu;cases hu
  . rcases E.new b hbn with z|z|⟨k,z⟩
    . exact J.new b z
    . exact .inr (J.gh.free z)
    . obtain⟨i,mp,_,m⟩:=tOf k b z;exact .inr (J.live i b m).2.1
  . by_cases hi:i∈dy as
    . obtain⟨k,mp,ek⟩:=uI hi;obtain⟨io,t,π,u,e1,e2,e3,rfl⟩:=B8 nd ek e;obtain⟨v0,h1,hio,rg,pg⟩:=hg k i mp u ek e1 io t π e2 e3;have e4:=((hF' i).2 k mp ek).1 ⟨io,t,π,u,e2,e3,e1⟩;rw[e4];obtain⟨w',ew,r',ndf'⟩:=E.out k u e1
      refine⟨v0,h1,rg,pg.nodup_iff.mpr (List.nodup_append.mpr ⟨ndf',?_,fun a ha b hb' z=>?_⟩),fun a ha=>?_,hio⟩
      . obtain⟨_,_,_,_,_,_,_,_,_,_,_,_,_,_,nd1,_⟩:=(hd k).1 i mp ek
        exact(List.nodup_append.mp nd1).2.1
      . subst z;obtain⟨m,off⟩:=restOff k i mp ek a hb';have:=(E.live k a ha).1;rw[j6 off]at this;obtain⟨⟨o,ho,_⟩,_⟩:=J.live i a m;rw[this]at ho;cases ho
      . rcases List.mem_append.mp (pg.mem_iff.mp ha)with z|z
        . refine⟨?_,(E.live k a z).2⟩
          rcases oq (E.live k a z).1 with y|⟨k',y⟩
          . exact J.gh.free y
          . obtain⟨i',mp',_,m⟩:=tOf k' a y
            exact(J.live i' a m).2.1
        . obtain⟨m,off⟩:=restOff k i mp ek a z
          exact⟨(J.live i a m).2.1,noS i a m off⟩
    . rw[u0 hi]at e;obtain⟨v,ev,r⟩:=J.own i s e;rw[(hF' i).1 hi]
      have off:∀ a∈F i,∀ k,a∉(d k).1:=fun a ha=>vk i a ha fun k mp e=>absurd (gU e) hi
      exact⟨v,ev,r.mono E.s (fun a ha o ho=>keep a o (off a ha) ho) (fun b o hx ho=>keep b o (fun k hk=>by
       obtain⟨i',mp',_,m⟩:=tOf k b hk;obtain⟨⟨o',h1,h2⟩,_⟩:=J.live i' b m
       rw[ho]at h1;cases h1;rw[hx]at h2;cases h2) ho) fun a ha=>noS i a ha (off a ha)⟩
  .
   have key:∀ i j a,a∈F' i->a∈F' j->(∃ k,a∈Fc' k)->∃ k mp,as[k]?=some (.t i mp) /\ a∈Fc' k:=by
    intro i j a ha _ ⟨k0,hk0⟩
    have no:∀ i',a∈F i'->¬ ∀ k,a∉(d k).1:=fun i' m off=>by
     have:=(E.live k0 a hk0).1;rw[j6 off]at this;obtain⟨⟨o,ho,_⟩,_⟩:=J.live i' a m;rw[this]at ho;cases ho
    rcases memF i a ha with⟨_,m,off⟩|⟨k,mp,e,_,z,_⟩
    . exact absurd off (no i m)
    . rcases z with z|⟨m,off⟩
      . exact⟨k,mp,e,z⟩
      . exact absurd off (no i m)
   by_cases hk:∃ k,a∈Fc' k
   . obtain⟨k1,mp1,e1,z1⟩:=key i j a h1 h2 hk;obtain⟨k2,mp2,e2,z2⟩:=key j i a h2 h1 hk;have:=E.apart k1 k2 a z1 z2;subst this;rw[e1]at e2;cases e2;rfl
   . have fromF:∀ i,a ∈ F' i -> a ∈ F i:=fun i ha=>by
      rcases memF i a ha with⟨_,m,_⟩|⟨k,mp,e,_,z,_⟩
      . exact m
      . rcases z with z|⟨m,_⟩
        . exact absurd ⟨k,z⟩ hk
        . exact m
     exact J.apart i j a (fromF i h1) (fromF j h2)
  . rcases memF i a ha with⟨_,m,off⟩|⟨k,mp,e,eg,z,io,t,π,u',x1,x2,x3⟩
    . obtain⟨⟨o,ho,hx⟩,hg',_⟩:=J.live i a m
      exact⟨⟨o,keep a o off ho,hx⟩,hg',noS i a m off⟩
    . obtain⟨v0,_,_,rg,pg⟩:=hg k i mp u' e x3 io t π x1 x2;rw[eg]at ha
      refine⟨rg.live a ha,?_⟩
      rcases z with z|⟨m,off⟩
      . refine⟨?_,(E.live k a z).2⟩
        rcases oq (E.live k a z).1 with y|⟨k',y⟩
        . exact J.gh.free y
        . obtain⟨i',mp',_,m⟩:=tOf k' a y
          exact(J.live i' a m).2.1
      . exact⟨(J.live i a m).2.1,noS i a m off⟩
  . rw[AZ];exact J.len
end
end L2.P
namespace L2.E
open PySem PySem.Spec PyProof.Rows L2
section
variable{X:Cx}{k:Nat}{f C:Addr}{fd:FuncData}{ps:List Str}{sp:Sp}{ds:List Value}{W:XW}{x m:Str}{p pos apos:Pos}{e o:Expr}{es:List Expr}{ta:TE}{t:TA}
noncomputable def yj(C:Addr)(m:Str)(sp:Sp)(W:XW)(ta:TE)(t:TA):TE:=fun σ H Q=>ta σ H fun x H1=>∃ a dx fs,x=.ref a /\ H1 a=some (.ins C dx fs) /\ fs.lookup m=none /\
 t σ H1 fun vs H2=>sp (x ::vs) H2 Q fun C a H'=>W C a σ H'
theorem Ar{pl:Sem Bool}(he:QE X o ta)(c:Cls X.K C)(hm:Meth X.K C m f)(F:cx X.prog X.w X.K X.mg X.base (CXE X.prog X.w) k f fd ps sp)(hr:iK k X.A)(hb:Binds X.K fd ps [])(hx:Thr X W)(ha:QA X (e ::es) t)
  (hst:starEach (e ::es) X.env=(false,eval e X.env) ::starEach es X.env:=by rfl) (hpl:(backTo pos (starEach es X.env)).any (·.1)=false:=by rfl)
  (ht:eval (.Call (.Attribute o m apos) (e ::es) [] pos) X.env=(do
    let ov <- eval o X.env
    standAt apos.atName
    let (f,first) <- holding [ov] (getMethod ov m pl)
    callWith pos f first (backTo pos (starEach (e ::es) X.env)) (backToKw pos (keywordEach [] X.env))):=by rfl):
  QE X (.Call (.Attribute o m apos) (e ::es) [] pos) (yj C m sp W ta t):=⟨by
 intro pins s σ H Q I h;refine PySem.W.methodCall_KW (pl:=pl) (thn (he.out pins s σ H _ I h) fun u s1 ⟨x,H1,I1,rx,a,dx,fs,ex,ea,l,q⟩=>?_) ht;subst ex
 obtain rfl:u=Value.ref a:=rx
 refine xb I1 ea c hm l ?_;refine PySem.W.callWith_K (first:=[.ref a]) (h₀:=X.base) I.ok.mod.kin hm.kp (thn (ha.out pos pins s1 σ H1 _ I1 q) fun us s2 ⟨vs,H2,I2,r,q2⟩=>⟨I2.kIn,?_⟩) hst hpl
 exact vB (us:=.ref a ::us) (vs:=.ref a ::vs) (dvs:=[]) F hr hb .nil hx I2 (.cons rfl r) (by rw[List.append_nil];exact q2)⟩
theorem xJ{pl:Sem Bool}(he:QE X o ta)(c:Cls X.K C)(hm:Meth X.K C m f)(F:cx X.prog X.w X.K X.mg X.base (CXE X.prog X.w) k f fd ps sp)(hr:iK k X.A)(hb:Binds X.K fd ps [])(hx:Thr X W)
  (ht:eval (.Call (.Attribute o m apos) [] [] pos) X.env=(do
    let ov <- eval o X.env
    standAt apos.atName
    let (f,first) <- holding [ov] (getMethod ov m pl)
    callWith pos f first (backTo pos (starEach [] X.env)) (backToKw pos (keywordEach [] X.env))):=by rfl):
  QE X (.Call (.Attribute o m apos) [] [] pos) (yj C m sp W ta mG):=⟨by
 intro pins s σ H Q I h;refine PySem.W.methodCall_KW (pl:=pl) (thn (he.out pins s σ H _ I h) fun u s1 ⟨x,H1,I1,rx,a,dx,fs,ex,ea,l,q⟩=>?_) ht;subst ex
 obtain rfl:u=Value.ref a:=rx
 refine xb I1 ea c hm l ?_
 exact PySem.W.callWith_K0 (first:=[.ref a]) I1.kIn hm.kp (vB (us:=[.ref a]) (vs:=[.ref a]) (dvs:=[]) F hr hb .nil hx I1 (.cons rfl .nil) q)⟩
theorem xG(F:cx X.prog X.w X.K X.mg X.base (CXE X.prog X.w) k f fd ps sp)(hr:iK k X.A)(hg:Gl X x)(hm:X.mg x=some (.ref f))(hk:PySem.W.keepIn X.K (.ref f)=true)(hb:Binds X.K fd ps [])(hx:Thr X W)
  (hdb:(x==("__debug__":Str))=false:=by decide):QE X (.Call (.Name x p) [] [] pos) (sf sp [] W mG):=⟨Dr F hr hg hm hk hb .nil hx hdb⟩
theorem Fm(M:Mk X.K C f)(F:cx X.prog X.w X.K X.mg X.base (CXE X.prog X.w) k f fd ps sp)(hr:iK (k+1) X.A)(hg:Gl X x)(hm:X.mg x=some (.ref C))(hb:Binds X.K fd ps [])(hdb:(x==("__debug__":Str))=false:=by decide):
  QE X (.Call (.Name x p) [] [] pos) (EU C sp [] (fun _ _ _=>False) mG):=⟨FK M F hr hg hm hb .nil (fun pins σ H s e s' I h=>by obtain⟨a,C,dx,H',_,_,_,_,_,_,z⟩:=h;exact z.elim) hdb⟩
theorem wM{f:Str}(he:QE X e ta)(hb:attributeBase e f X.env (eval e X.env)=eval e X.env:=by rfl):QE X (.Attribute e f pos) (K9 X.K ta f):=⟨Kz he.out hb⟩
theorem LA{f:Str}{value:Expr}{tv:TE}{pos':Pos}(ha:QE X o ta)(hv:QE X value tv)(hs:swapsWith value (some (.Attribute o f pos')) pos.line X.env=pure false:=by rfl):QS X (.Assign [.Attribute o f pos'] value pos) (KQ X.K ta tv f):=⟨Mo ha.out hv.out hs⟩
end
end L2.E
namespace L2.P
open PySem PySem.Spec PyProof.Rows L2 L2.E
section
variable{K:PySem.W.Frag}{cls:String->Option Addr}{W:XW}{Av G S₀ S S' H H' B B':Hp}{ρ:ag}{σ:St}{Q:VK}{F Fc Fc':Nat->List Addr}
theorem SR.more(I:SR K cls Av G S₀ ρ σ S H)(h:Rep K S x v):SR K cls Av G S₀ (ρ++[some (.sh x)]) (σ++[some v]) S H:=by
 obtain⟨F,J⟩:=I
 exact J.more (fp:=[]) (fun t e=>by cases e;exact⟨v,rfl,rfl,h⟩) (fun a ha=>nomatch ha) fun j a _ ha=>nomatch ha
theorem v9{f:List Sl->OI}(ok:argsOk as=true)(I:SR K cls Av G S₀ ρ σ S1 H1)(s1:aK S S1)(ar:ARs K S1 H1 ρ σ as ss vs)
  (p:Jp K cls W Av G S₀ σ S Q (match f ss with
    |.ok x outs=>.ok (fQ ρ as outs ρ) (.sh x)
    |.exc c fs outs=>.exc (fQ ρ as outs ρ) c fs
    |.bad=>.bad)):spI K cls f vs H1 Q fun C a H'=>W C a σ H':=by
 obtain⟨Fc,A,fin⟩:=I.MJ ok ar
 refine⟨S1,ss,Fc,A,?_⟩
 cases e:f ss with
 |bad=>rw[e]at p;exact p
 |ok x outs=>rw[e]at p;exact fun v S' H' Fc' E r=>p v S' H' ((fin outs S' H' Fc' E).more r) (s1.trans E.s)
 |exc c fs outs=>rw[e]at p;exact fun a C S' H' Fc' E r=>p a C S' H' (fin outs S' H' Fc' E) (s1.trans E.s) r
theorem xi{f:List Sl->OI}(ok:argsOk as=true)(h:JAI K cls t as):JX K cls W (sf (spI K cls f) [] W t) (jP f as):=by
 intro Av G S₀ ρ σ S H Q I p;unfold jP at p
 cases e:jT as ρ with
 |none=>rw[e]at p;exact p.elim
 | some ss=>
   rw[e]at p
   refine h Av G S₀ ρ σ S H _ ss I e fun vs S1 H1 w1 ar=>?_
   show spI K cls f (vs++[]) H1 Q _;rw[List.append_nil];exact v9 ok (I.grow w1) w1.s ar p
theorem CW(hc:cls c=some C)(I:SR K cls Av G S₀ ρ σ S H)(r:AR1 K S H ρ σ a s v)(h:recv c m (some s)=true):∃ q dx us,v=.ref q /\ H q=some (.ins C dx us) /\ us.lookup m=none:=by
 have main:∀(ks:List Str) (ts:List OV) (f:List Addr),(c==c && !ks.contains m)=true->bz K cls S H (.ob c ks ts) v f->∃ q dx us,v=.ref q /\ H q=some (.ins C dx us) /\ us.lookup m=none:=by
  intro ks ts f hk ro;unfold bz at ro;obtain⟨q,C',dx,us,ff,rfl,hcl,hq,hd,hks,rfl,rs⟩:=ro;rw[hc]at hcl;cases hcl
  refine⟨q,dx,us,rfl,hq,?_⟩
  have hn:m∉us.map (·.1):=by rw[hks];simpa using hk
  clear hks hk rs hq
  induction us with
  |nil=>rfl
  | cons p us ih=>
    obtain⟨g,y⟩:=p;simp at hn
    have:(m==g)=false:=by simpa using hn.1
    simp[List.lookup,this,ih (by simpa using hn.2)]
 cases a with
 |e me=>cases s<;>first|exact r.elim|cases h
 | t i mp=>
   cases s with
   | tr io u=>
     cases io with
     |false=>cases h
     | true=>
       cases u with
       |sh x=>cases h
       |ol ts=>cases h
       |di x=>cases h
       |dt x=>cases h
       | ob c' ks ts=>
         obtain⟨io,t,π,v0,h1,h2,h3,h4,h5⟩:=r
         have h':(c'==c && !ks.contains m)=true:=h
         have hcc:c'=c:=by rw[Bool.and_eq_true]at h';simpa using h'.1
         subst hcc;obtain⟨v',fp,ev,ro⟩:=I.tree (i:=i) (t:=t) (by unfold gB;rw[h1];rfl);rw[h4]at ev;cases ev;obtain⟨w,f1,rest,wk,r1,_,_⟩:=ro.focus h3;have:=h5.inj wk;subst this;exact main ks ts f1 h' r1
   |sh x=>exact r.elim
   |ow x=>exact r.elim
   |ex c fs=>exact r.elim
   |bo x=>exact r.elim
 | b i mp=>
   cases s with
   | bo u=>
     cases u with
     |sh x=>cases h
     |ol ts=>cases h
     |di x=>cases h
     |dt x=>cases h
     | ob c' ks ts=>
       obtain⟨t,π,v0,h1,h2,h3,h4,h5⟩:=r
       have h':(c'==c && !ks.contains m)=true:=h
       have hcc:c'=c:=by rw[Bool.and_eq_true]at h';simpa using h'.1
       subst hcc;obtain⟨v',fp,ev,ro⟩:=I.tree h1;rw[h4]at ev;cases ev;obtain⟨w,f1,rest,wk,r1,_,_⟩:=ro.focus h3;have:=h5.inj wk;subst this;exact main ks ts f1 h' r1
   |sh x=>exact r.elim
   |ow x=>exact r.elim
   |ex c fs=>exact r.elim
   |tr io x=>exact r.elim
theorem Ai{f:List Sl->OI}(hc:cls c=some C)(ok:argsOk (a ::as)=true)(ha:JA1 K cls ta a)(h:JAI K cls t as):JX K cls W (yj C m (spI K cls f) W ta t) (pL c m f (a ::as)):=by
 intro Av G S₀ ρ σ S H Q I p;unfold pL at p
 dsimp only at p
 split at p
 . rename_i hr;unfold jP at p
   cases e:jT (a ::as) ρ with
   |none=>rw[e]at p;exact p.elim
   | some ss=>
     rw[e]at p
     have e':=e
     unfold jT at e';obtain⟨s,e1,e2⟩:=Option.bind_eq_some_iff.mp e';obtain⟨sr,e3,rfl⟩:=Option.map_eq_some_iff.mp e2;rw[e1]at hr
     refine ha Av G S₀ ρ σ S H _ s I e1 fun v S1 H1 w1 r1=>?_
     have I1:=I.grow w1;obtain⟨q,dx,us,rfl,hq,hl⟩:=CW hc I1 r1 hr
     refine⟨q,dx,us,rfl,hq,hl,?_⟩
     refine h Av G S₀ ρ σ S1 H1 _ sr I1 e3 fun vs S2 H2 w2 ar=>?_
     exact v9 (ss:=s ::sr) ok (I1.grow w2) (w1.s.trans w2.s) ⟨s,sr,_,vs,rfl,rfl,r1.mono w2.s w2.g,ar⟩ p
 . exact p.elim
theorem BM{f:List Sl->OI}(ok:dy as=[])(I:SR K cls Av G S₀ ρ σ S H)(ar:ARs K S H ρ σ as ss vs)
  (p:mY K cls W σ S H Q (match f ss with
    |.ok x _=>.ok (.sh x)
    |.exc c fs _=>.exc c fs
    |.bad=>.bad)):spI K cls f vs H Q fun C a H'=>W C a σ H':=by
 have hm:minus H (fun _=>[])=H:=by funext a;exact j6 fun k h=>nomatch h
 have hlen:=ar.len
 refine⟨S,ss,fun _=>[],⟨I.sh,by rw[hlen.1,hlen.2],fun k s es=>?_,fun j k a h=>(nomatch h),fun k a h=>(nomatch h)⟩,?_⟩
 . have hk:k<as.length:=by rw[<- hlen.1];exact(List.getElem?_eq_some_iff.mp es).1
   obtain⟨s',w,es',ev,r⟩:=ar.at (k:=k) (a:=as[k]) (by simp[hk]);rw[es]at es';cases es'
   refine⟨w,ev,?_⟩
   cases q:as[k]with
   | e me=>
     rw[q]at r
     cases s<;>first|exact r.elim|exact⟨rfl,r⟩
   | t i mp=>
     have:=gU (as:=as) (k:=k) (i:=i) (mp:=mp) (by rw[List.getElem?_eq_getElem hk,q]);rw[ok]at this;cases this
   | b i mp=>
     rw[q]at r
     cases s with
     | bo u=>
       obtain⟨t,π,v0,h1,h2,h3,h4,h5⟩:=r;obtain⟨v',fp,ev',ro⟩:=I.tree h1;rw[h4]at ev';cases ev';obtain⟨w',f1,rest,wk,r1,_,_⟩:=ro.focus h3;have:=h5.inj wk;subst this
       exact⟨rfl,f1,by rw[hm];exact r1⟩
     |sh x=>exact r.elim
     |ow x=>exact r.elim
     |ex c fs=>exact r.elim
     |tr io x=>exact r.elim
 . have gr:∀ {outs S' H' Fc'},GK K cls vs S H (fun _=>[]) outs S' H' Fc' -> bj S H S' H':=fun {outs S' H' Fc'} E=>⟨E.s,by have:=E.keep; rwa [hm] at this,E.sh,fun b hb=>by
    rcases E.new b hb with z|z|⟨k,z⟩
    . exact .inl z
    . exact .inr z
    . cases z⟩
   cases e:f ss with
   |bad=>rw[e]at p;exact p
   |ok x outs=>rw[e]at p;exact fun v S' H' Fc' E r=>p v S' H' (gr E) r
   |exc c fs outs=>rw[e]at p;exact fun a C S' H' Fc' E r=>p a C S' H' (gr E) r
theorem AI{f:List Sl->OI}(hc:cls c=some C)(ok:dy (a ::as)=[])(ha:JA1 K cls ta a)(h:JAI K cls t as):JE K cls W (yj C m (spI K cls f) W ta t) (ph c m f (a ::as)):=by
 intro Av G S₀ ρ σ S H Q I p;unfold ph at p
 dsimp only at p
 split at p
 . rename_i hr;unfold yN at p
   cases e:jT (a ::as) ρ with
   |none=>rw[e]at p;exact p.elim
   | some ss=>
     rw[e]at p
     have e':=e
     unfold jT at e';obtain⟨s,e1,e2⟩:=Option.bind_eq_some_iff.mp e';obtain⟨sr,e3,rfl⟩:=Option.map_eq_some_iff.mp e2;rw[e1]at hr
     refine ha Av G S₀ ρ σ S H _ s I e1 fun v S1 H1 w1 r1=>?_
     have I1:=I.grow w1;obtain⟨q,dx,us,rfl,hq,hl⟩:=CW hc I1 r1 hr
     refine⟨q,dx,us,rfl,hq,hl,?_⟩
     refine h Av G S₀ ρ σ S1 H1 _ sr I1 e3 fun vs S2 H2 w2 ar=>?_
     exact BM (ss:=s ::sr) ok (I1.grow w2) ⟨s,sr,_,vs,rfl,rfl,r1.mono w2.s w2.g,ar⟩ (p.back (w1.trans w2))
 . exact p.elim
theorem GV{f:List Sl->OI}(hc:cls c=some C):JD K cls W (EU C (spI K cls f) [] (fun _ _ _=>False) mG) (xT c f):=by
 intro Av G S₀ ρ σ S H Q I p;unfold xT at p
 show ∀ x dx,H x=none->H dx=none->dx≠x->_
 intro x dx hx hdx ne
 have gS:∀ a,H a=none->S a=none:=fun a h=>I.sh.free h
 let H1:=upd (upd H dx (.own x)) x (.ins C dx [])
 have h1x:H1 x=some (.ins C dx []):=bL
 have h1d:H1 dx=some (.own x):=by show upd _ x _ dx=_;rw[bP ne,bL]
 have h1o:∀ a,a≠x->a≠dx->H1 a=H a:=fun a n1 n2=>by show upd _ x _ a=_;rw[bP n1,bP n2]
 let Fc:Nat->List Addr:=fun k=>if k=0 then[x,dx]else[]
 have mF:∀ k a,a∈Fc k->k=0 /\ (a=x \/ a=dx):=fun k a h=>by
  have h':a∈(if k=0 then[x,dx]else[]):=h
  split at h'
  . rename_i e;exact⟨e,by simpa using h'⟩
  . cases h'
 have A:GI K cls [.tr true (.ob c [] [])] [.ref x] S H1 Fc:=by
  refine⟨fun b u h=>?_,rfl,fun k s e=>?_,fun j k a h1 h2=>?_,fun k a h=>?_⟩
  . have hb:=I.sh b u h;rw[h1o b (fun z=>by rw[z,hx]at hb;cases hb) (fun z=>by rw[z,hdx]at hb;cases hb)];exact hb
  . cases k with
    | zero=>
      cases e
      refine⟨.ref x,rfl,?_,?_⟩
      . unfold bz
        exact⟨x,C,dx,[],[],rfl,hc,h1x,h1d,rfl,rfl,.nil⟩
      . show[x,dx].Nodup
        simp[Ne.symm ne]
    |succ k=>simp at e
  . rw[(mF j a h1).1,(mF k a h2).1]
  . rcases(mF k a h).2 with z|z
    . subst z;exact⟨⟨_,h1x,rfl⟩,gS _ hx⟩
    . subst z;exact⟨⟨_,h1d,rfl⟩,gS _ hdx⟩
 refine⟨S,_,Fc,A,?_⟩
 have free:∀ a,minus H1 Fc a=none->H a=none:=fun a h=>by
  rcases oq h with z|⟨k,z⟩
  . by_cases n1:a=x
    . rw[n1];exact hx
    . by_cases n2:a=dx
      . rw[n2];exact hdx
      . rw[h1o a n1 n2]at z;exact z
  . rcases(mF k a z).2 with y|y
    . rw[y];exact hx
    . rw[y];exact hdx
 cases e:f [.tr true (.ob c [] [])]with
 |bad=>rw[e]at p;exact p.elim
 |exc c fs outs=>rw[e]at p;exact p.elim
 | ok y outs=>
   rw[e]at p
   cases y with
   | non=>
     cases outs with
     |nil=>exact p.elim
     | cons o outs=>
       cases o with
       |none=>exact p.elim
       | some t=>
         dsimp only at p
         intro v S' H' Fc' E r;unfold Rep at r
         refine⟨r,p (.ref x) S' H' ⟨E.s,fun b u h=>?_,E.sh,fun b h=>?_⟩ ?_⟩
         . have n1:b≠x:=fun z=>by rw[z,hx]at h;cases h
           have n2:b≠dx:=fun z=>by rw[z,hdx]at h;cases h
           refine E.keep b u ?_;rw[j6 fun k z=>?_]
           . exact(h1o b n1 n2).trans h
           . rcases(mF k b z).2 with y|y
             . exact n1 y
             . exact n2 y
         . rcases E.new b h with z|z|⟨k,z⟩
           . exact .inl z
           . refine .inr ?_
             by_cases n1:b=x
             . rw[n1];exact hx
             . by_cases n2:b=dx
               . rw[n2];exact hdx
               . exact(h1o b n1 n2).symm.trans z
           . rcases(mF k b z).2 with y|y
             . rw[y];exact .inr hx
             . rw[y];exact .inr hdx
         . obtain⟨u,eu,ro,nd⟩:=E.out 0 t rfl;cases eu
           exact⟨Fc' 0,ro,nd,fun a ha=>⟨free a (E.live 0 a ha).1,(E.live 0 a ha).2⟩⟩
   |bl b=>exact p.elim
   |int b=>exact p.elim
   |str b=>exact p.elim
   |lst b=>exact p.elim
   |tup b=>exact p.elim
end
end L2.P
namespace L2.E
open PySem PySem.Spec PyProof.Rows L2
noncomputable def zp(wi:TI)(ι:List Nat)(tc:TT)(te:TE):TE:=fun σ H Q=>wi σ H fun J H1=>∀ D,H1 D=none->∃ W:Nat->Nat->List V->Hp->Prop,(∃ m,W 0 m [] (upd H1 D (.lst []))) /\ ∀ i m ys H,W i m ys H ->
 H D=some (.lst ys) /\ ((J.stop i H /\ Q (.ref D) H) \/ (J.go i H /\ ∀ x H',J.yld i H x H'->tc (pick ι σ++[some x]) H' fun b H3=>H3 D=some (.lst ys) /\ if b=true then
   te (pick ι σ++[some x]) H3 fun y H2=>H2 D=some (.lst ys) /\ ys.length<sizeLine /\ ∃ m',m'<m /\ W (i+1) m' (ys++[y]) (upd H2 D (.lst (ys++[y])))else ∃ m',m'<m /\ W (i+1) m' ys H3))
section
variable{X:Cx}{scope:Scope}{cl:List (Str×Addr)}{M:List Str}{ι:List Nat}{x:Str}
theorem Dz{elt iter c:Expr}{px pos:Pos}{wi:TI}{tc:TT}{te:TE}(S:oJ X scope cl M ι x)(hc:X.calm=true)(hi:PI X (.Name x px) iter wi)(hcd:∀ C s₀ H₀ ex,PT (blk X scope cl (M++[x]) C s₀ H₀ ex) c tc)(he:∀ C s₀ H₀ ex,PE (blk X scope cl (M++[x]) C s₀ H₀ ex) elt te)
  (hs:∀ v,foldedSetIterable iter X.env v=pure v:=by intro _;rfl):PE X (.ListComp elt [⟨.Name x px,iter,[c],0⟩] scope pos) (zp wi ι tc te):=by
 intro pins s σ H Q I h;rw[eval_ListComp];refine wpAny_comprehension_free (use:=none) rfl hs S.clos S.kind (fun y hy hl=>?_) (wpAny_mono (hi pins s σ H _ I h) (fun v s1 h1=>wpAny_mono h1 (fun itv s2 h2=>?_) fun _ _ z=>z) fun _ _ z=>z)
 . have q:=List.all_eq_true.mp S.locs y hy;rw[hl]at q
   simpa using q
 obtain⟨it,fp,tn,J,H2,rfl,I2,T,st2,f2,hW⟩:=h2;have I3:=I2.GR (ys:=[]) (its:=[]) (t':=s2.toks) .nil (Nat.zero_le _);obtain⟨W,⟨m0,w0⟩,turn⟩:=hW s2.heap.objs.size I2.fresh
 have fpo:∀ b∈fp,b<s2.heap.objs.size:=fun b hb=>let ⟨_,e,_⟩:=T.obj _ _ st2 b hb;Heap.lt_size e
 have f3:∀ b∈fp,pQ X pins (upd H2 s2.heap.objs.size (.lst [])) b:=fun b hb=>by
  obtain⟨q0,q⟩:=f2 b hb
  exact⟨by rw[bP (Nat.ne_of_lt (fpo b hb))];exact q0,q⟩
 show wpAny _ _ (newObj (.type "list") _ none) _ _ s2;refine wpAny_newObj_type (wpAny_newFunctionEnv (fun y hy=>?_) (by intro y hy;simp at hy) (fun h₁ hn₁ sb₁=>?_) S.kind)
 . have q:=List.all_eq_true.mp S.nocell y hy
   simpa using q
 have hsz:(s2.heap.push { cls:=.type "list",dict:=none,data:=.seq ([]:List Value).toArray }).objs.size=s2.heap.objs.size+1:=Heap.size_push ..
 have hk₁:∀ b o,(s2.heap.push { cls:=.type "list",dict:=none,data:=.seq ([]:List Value).toArray }).get? b=some o->h₁.get? b=some o:=fun b o e=>
  (sb₁.2 b (Nat.ne_of_lt (Heap.lt_size e))).trans (Heap.get?_push_of_some _ e)
 have J0:=BG (t':=s2.toks+([]:List (Str×Value)).length) S I3 (ex:=fp) (fun b hb=>⟨f3 b hb,Nat.lt_of_lt_of_le (fpo b hb) (by rw[hsz];exact Nat.le_succ _)⟩) hn₁ hk₁
 have old:∀ b∈fp,∀ o,s2.heap.get? b=some o->h₁.get? b=some o:=fun b _ o e=>hk₁ b o (Heap.get?_push_of_some _ e)
 have st₁:tn 0 h₁:=T.keep _ _ _ st2 old
 have loop:codeAny (model X.prog X.w) X.A (.compLoop (.ListComp elt [⟨.Name x px,iter,[c],0⟩] scope pos) 0 (.ref it) (.ref s2.heap.objs.size) (compEnvC scope cl (s2.heap.objs.size+1) X.env))
   (compPost (model X.prog X.w) X.A X.xe none (EP X pins σ Q) (.ref s2.heap.objs.size) (s2.heap.objs.size+1)) { s2 with heap:=h₁,toks:=s2.toks+([]:List (Str×Value)).length }:=by
  rw[hsz]at J0
  refine codeAny_loop rfl (fun n s'=>∃ i H' ys v,Inv (blk X scope cl (M++[x]) (s2.heap.objs.size+1) { s2 with heap:=s2.heap.push { cls:=.type "list",data:=.seq ([]:List Value).toArray },toks:=s2.toks } (upd H2 s2.heap.objs.size (.lst [])) fp) [] (pick ι σ++[v]) H' s' /\ tn i s'.heap /\ (∀ b∈fp,H' b=none) /\ W i n ys H')
   (fun n s' hI=>?_) m0 ⟨0,_,[],none,J0,st₁,fun b hb=>(f3 b hb).1,w0⟩
  obtain⟨i,H',ys,v,J',st',fr',w'⟩:=hI;obtain⟨hD,alt⟩:=turn i n ys H' w'
  have fpY:∀{G:Hp},(∀ b∈fp,G b=none)->∀ b∈fp,pQ (blk X scope cl (M++[x]) (s2.heap.objs.size+1) { s2 with heap:=s2.heap.push { cls:=.type "list",data:=.seq ([]:List Value).toArray },toks:=s2.toks } (upd H2 s2.heap.objs.size (.lst [])) fp) [] G b:=fun hG b hb=>
   ⟨hG b hb,(J'.ok.exf b hb).1,J'.ok.exfs b hb,.inl hb,(J'.ok.exf b hb).2,fun p hp=>absurd (show p∈([]:List (Addr×Obj)) from hp) (by simp)⟩
  show wpAny _ _ ((compTurn _ 0 (.ref it) (.ref s2.heap.objs.size) (compEnvC scope cl (s2.heap.objs.size+1) X.env)).onRaise _) _ _ s';refine wpAny_noted (wpAny_noRaise ?_);rw[compTurn_list];refine wpAny_bind (wpAny_standAt (wpAny_bind ?_))
  rcases alt with⟨stop,qn⟩|⟨go,step⟩
  . refine thn (T.done (blk X scope cl (M++[x]) (s2.heap.objs.size+1) _ _ fp) rfl rfl rfl hc i [] s' _ H' _ J' (fpY fr') st' stop) fun r s4 ⟨hr,J4⟩=>?_
    subst hr;refine wpAny_pure ?_;obtain⟨m,hm,_⟩:=id J4.loc
    refine⟨m,hm,fun h' sb=>⟨.ref s2.heap.objs.size,H',yR I3 hsz.symm f3 J4 sb,rfl,qn⟩⟩
  . refine thn (T.item (blk X scope cl (M++[x]) (s2.heap.objs.size+1) _ _ fp) rfl rfl rfl hc i [] s' _ H' _ J' (fpY fr') st' go) fun r s4 ⟨u,hr,h4⟩=>?_
    subst hr;refine wpAny_bind (thn h4 fun _ s5 ⟨z,H5,J5,r5,y5,st5,fr5⟩=>?_)
    have J5':=J5.pinned (fpY fr5) (T.obj _ _ st5)
    have hxN:(M++[x])[M.length]?=some x:=by simp
    refine wpAny_bind ?_;refine wpAny_assign_Name ?_;refine my (X:=blk X scope cl (M++[x]) (s2.heap.objs.size+1) _ _ fp) (i:=M.length) (v:=z) J5' S.nd hxN (.inl (lookup_relabel_local S.var)) r5 (fun s6 J6=>?_) (.inr (lookup_relabel_local S.var))
    have hlp:(pick ι σ).length=M.length:=by
     have q:=congrArg List.length S.names;rw[List.length_map,List.length_map]at q;unfold pick;rw[List.length_map,q]
    have hset:(pick ι σ++[v]).set M.length (some z)=pick ι σ++[some z]:=by
     rw[<- hlp,List.set_append_right _ _ (Nat.le_refl _),Nat.sub_self];rfl
    rw[hset]at J6;refine wpAny_bind (wpAny_tests_one (thn (hcd _ _ _ _ _ s6 _ H5 _ J6 (step z H5 y5)) fun b s7 ⟨H7,J7,hD7,q7⟩=>?_))
    cases b with
    | true=>
      rw[if_pos rfl]at q7;refine wpAny_bind (wpAny_bind (thn (he _ _ _ _ _ s7 _ H7 _ J7 q7) fun yv s8 ⟨y,H8,J8,r8,hD8,hz8,m',hm',w8⟩=>?_));refine wpAny_bind (thn (b7 (X:=blk X scope cl (M++[x]) (s2.heap.objs.size+1) _ _ fp) _ s8 _ H8 (.ref s2.heap.objs.size) [y] (.ref s2.heap.objs.size) [yv] (fun _ G=>G=upd H8 s2.heap.objs.size (.lst (ys++[y]))) J8 rfl (.cons r8 .nil) ⟨_,_,y,rfl,rfl,hD8,hz8,rfl⟩) fun _ s9 ⟨_,H9,J9,_,e9⟩=>?_);subst e9;refine wpAny_pure (wpAny_pure ⟨rfl,m',hm',i+1,_,_,some z,J9.kB,?_,fun b hb=>?_,w8⟩)
      . exact T.keep _ _ _ st5 fun b hb o e=>(J9.pin (b,o) (List.mem_append_right _ (List.mem_append_right _ (eX hb e)))).1
      . obtain⟨o,e,d⟩:=T.obj _ _ st5 b hb
        exact(J9.pin (b,o) (List.mem_append_right _ (List.mem_append_right _ (eX hb e)))).2.1
    | false=>
      rw[if_neg (by decide)]at q7;obtain⟨m',hm',w8⟩:=q7;refine wpAny_pure ⟨rfl,m',hm',i+1,_,_,some z,J7.kB,?_,fun b hb=>?_,w8⟩
      . exact T.keep _ _ _ st5 fun b hb o e=>(J7.pin (b,o) (List.mem_append_right _ (List.mem_append_right _ (eX hb e)))).1
      . obtain⟨o,e,d⟩:=T.obj _ _ st5 b hb
        exact(J7.pin (b,o) (List.mem_append_right _ (List.mem_append_right _ (eX hb e)))).2.1
 rw[hsz]at *;exact codeAny_compStart_list loop (T.self X.A 0 _ _ _ st₁ loop)
end
theorem FR(its:List Value):slicePick its.toArray none none (some (-1))=its.reverse.toArray:=by
 unfold slicePick
 have hb:sliceBounds none none (some (-1)) its.toArray.size=((its.length:Int) - 1,-1,-1):=by simp[sliceBounds]
 rw[hb]
 congr 1
 have hr:sliceRange ((its.length:Int) - 1) (-1) (-1)=(List.range its.length).map fun i=>its.length - 1 - i:=by
  unfold sliceRange;rw[if_neg (by decide)]
  have hc:(if((its.length:Int) - 1) > -1 then(((its.length:Int) - 1) - -1 - -1 - 1)/(- -1)else 0).toNat=its.length:=by
   split
   . rw[show(- -1:Int)=1 by decide,Int.ediv_one];omega
   . omega
  dsimp only;rw[hc]
  refine List.map_congr_left fun k hk=>?_
  have:=List.mem_range.mp hk;omega
 rw[hr];apply List.ext_getElem?;intro n;rw[List.filterMap_map]
 have hall:∀ m,m<=its.length->List.filterMap ((fun x=>its.toArray[x]?) ∘ fun i=>its.length - 1 - i) (List.range m)=(its.reverse).take m:=by
  intro m
  induction m with
  |zero=>intro _;simp
  | succ m ih=>
    intro hm;rw[List.range_succ,List.filterMap_append,ih (by omega)]
    have h1:its.length - 1 - m<its.length:=by omega
    have h2:m<its.reverse.length:=by rw[List.length_reverse];omega
    rw[List.take_succ_eq_append_getElem h2]
    congr 1
    simp[h1]
 rw[hall its.length (Nat.le_refl _),List.take_of_length_le (by simp)]
theorem A1:∀{xs:List V} {us:List Value},Vals xs us->Vals xs.reverse us.reverse
 |_,_,.nil=>.nil
 | _,_,.cons r t=>by
   rw[List.reverse_cons,List.reverse_cons]
   exact(A1 t).append (.cons r .nil)
section
variable{X:Cx}{e st:Expr}{te ts:TE}{pos p2:Pos}
noncomputable def LO(K:PySem.W.Frag)(te ts:TE):TE:=fun σ H Q=>te σ H fun x H1=>ts σ H1 fun k H2=>k=.int (-1) /\ ∃ a xs,x=.ref a /\ SqL K H2 a xs /\ ∀ p,H2 p=none->Q (.ref p) (upd H2 p (.lst xs.reverse))
theorem Ky(he:PE X e te)(hk:PE X st ts):PE X (.Subscript e (.Slice none none (some st) p2) pos) (LO X.K te ts):=by
 intro pins s σ H Q I h;refine Subscript_ (thn (he pins s σ H _ I h) fun v s1 ⟨x,H1,I1,r1,q1⟩=>?_);refine wpAny_Slice ?_;rw[evalPart_none];refine wpAny_pure (wpAny_pure ?_);rw[evalPart_some]
 refine thn (hk pins s1 σ H1 _ I1 q1) fun u s3 ⟨k,H3,I3,r3,q3⟩=>?_
 obtain⟨rfl,a,xs,rfl,hq,q⟩:=q3;obtain⟨t,rfl⟩:=r3;cases r1
 have I4:Inv X pins σ H3 { s3 with heap:=s3.heap.push { cls:=.type "slice",data:=.fields #[.none,.none,.int (-1) t] } }:=I3.kept (t':=s3.toks) fun b ob q=>Heap.get?_push_of_some _ q
 obtain⟨its,r,ht,hz⟩:=I4.list hq;have hlen:=r.length;show wpAny (model X.prog X.w) X.A (subscriptTail e (.Slice none none (some st) p2) (.ref a) (.ref s3.heap.objs.size)) (EP X pins σ Q) X.xe { s3 with heap:=s3.heap.push { cls:=.type "slice",data:=.fields #[.none,.none,.int (-1) t] } };refine tail_any (ops:=[.ref a,.ref s3.heap.objs.size]) ht.isList.typeIs slot_list_getitem.lookup ?_ (by with_unfolding_all rfl);refine wpAny_getItem_list_slice ht.isList (Heap.IsSliceOf.new ..) .none .none (.int (-1) t) (by decide) ?_ (by rw[List.size_toArray]<;>omega);rw[FR]
 refine⟨.ref _,_,I4.laid (t':=s3.toks) (o:=.lst xs.reverse) (fun b ob q=>Heap.get?_push_of_some _ q) (Nat.le_refl _) ?_,rfl,q _ (I4.hok.fresh (Nat.le_refl _))⟩
 refine⟨by rw[List.length_reverse];exact hz,its.reverse,0,A1 r,Heap.get?_push_size _ rfl⟩
end
section
variable{X:Cx}{scope:Scope}{cl:List (Str×Addr)}{M:List Str}{ι:List Nat}{x:Str}
theorem HN{i:Nat}{y:Str}{py spos:Pos}{elt iter:Expr}{px pos:Pos}{wi:TI}{te:TE}(S:oJ X scope cl M ι x)(hc:X.calm=true)(hi:PI X (.Name x px) iter wi)(he:∀ C s₀ H₀ ex,PE (blk X scope cl (M++[x]) C s₀ H₀ ex) elt te)
  (hN:X.N.Nodup) (hiy:X.N[i]?=some y) (hy:Loc X.env.scope y) (hsw:swapsWith (.ListComp elt [⟨.Name x px,iter,[],0⟩] scope pos) (some (.Name y py)) spos.line X.env=pure true) (hf:X.fn y=true \/ X.env.scope.names.lookup y=some .local:=by first|exact .inl rfl|exact .inr rfl|assumption)
  (hs:∀ v,foldedSetIterable iter X.env v=pure v:=by intro _;rfl):PS X (.Assign [.Name y py] (.ListComp elt [⟨.Name x px,iter,[],0⟩] scope pos) spos) (vm (uP wi ι te) (mm i)):=by
 intro pins s σ H D0 I h;rw[exec_Assign_Name_used _ _ _ _ hsw];refine wpAny_bind (wpAny_standAt (wpAny_bind ?_));show wpAny _ _ (do let _ <- comprehension (.ListComp elt [⟨.Name x px,iter,[],0⟩] scope pos) scope X.env _ (newList []) false (eval iter X.env) (some (assign (.Name y py) X.env))) _ _ s;refine wpAny_bind (wpAny_mono (wpAny_comprehension_free (use:=some (assign (.Name y py) X.env)) (Q:=fun _ s'=>∃ σ' H',Inv X pins σ' H' s' /\ D0.nx σ' H') rfl hs S.clos S.kind (fun y hy hl=>?_) (wpAny_mono (hi pins s σ H _ I h) (fun v s1 h1=>wpAny_mono h1 (fun itv s2 h2=>?_) fun _ _ z=>z) fun _ _ z=>z)) (fun _ s' hq=>wpAny_pure (wpAny_pure hq)) fun _ _ e=>e)
 . have q:=List.all_eq_true.mp S.locs y hy;rw[hl]at q
   simpa using q
 obtain⟨it,fp,tn,J,H2,rfl,I2,T,st2,f2,hW⟩:=h2;have I3:=I2.GR (ys:=[]) (its:=[]) (t':=s2.toks) .nil (Nat.zero_le _);obtain⟨W,⟨m0,w0⟩,turn⟩:=hW s2.heap.objs.size I2.fresh
 have fpo:∀ b∈fp,b<s2.heap.objs.size:=fun b hb=>let ⟨_,e,_⟩:=T.obj _ _ st2 b hb;Heap.lt_size e
 have f3:∀ b∈fp,pQ X pins (upd H2 s2.heap.objs.size (.lst [])) b:=fun b hb=>by
  obtain⟨q0,q⟩:=f2 b hb
  exact⟨by rw[bP (Nat.ne_of_lt (fpo b hb))];exact q0,q⟩
 show wpAny _ _ (newObj (.type "list") _ none) _ _ s2;refine wpAny_newObj_type (wpAny_newFunctionEnv (fun y hy=>?_) (by intro y hy;simp at hy) (fun h₁ hn₁ sb₁=>?_) S.kind)
 . have q:=List.all_eq_true.mp S.nocell y hy
   simpa using q
 have hsz:(s2.heap.push { cls:=.type "list",dict:=none,data:=.seq ([]:List Value).toArray }).objs.size=s2.heap.objs.size+1:=Heap.size_push ..
 have hk₁:∀ b o,(s2.heap.push { cls:=.type "list",dict:=none,data:=.seq ([]:List Value).toArray }).get? b=some o->h₁.get? b=some o:=fun b o e=>
  (sb₁.2 b (Nat.ne_of_lt (Heap.lt_size e))).trans (Heap.get?_push_of_some _ e)
 have J0:=BG (t':=s2.toks+([]:List (Str×Value)).length) S I3 (ex:=fp) (fun b hb=>⟨f3 b hb,Nat.lt_of_lt_of_le (fpo b hb) (by rw[hsz];exact Nat.le_succ _)⟩) hn₁ hk₁
 have old:∀ b∈fp,∀ o,s2.heap.get? b=some o->h₁.get? b=some o:=fun b _ o e=>hk₁ b o (Heap.get?_push_of_some _ e)
 have st₁:tn 0 h₁:=T.keep _ _ _ st2 old
 have loop:codeAny (model X.prog X.w) X.A (.compLoop (.ListComp elt [⟨.Name x px,iter,[],0⟩] scope pos) 0 (.ref it) (.ref s2.heap.objs.size) (compEnvC scope cl (s2.heap.objs.size+1) X.env))
   (compPost (model X.prog X.w) X.A X.xe (some (assign (.Name y py) X.env)) (fun _ s'=>∃ σ' H',Inv X pins σ' H' s' /\ D0.nx σ' H') (.ref s2.heap.objs.size) (s2.heap.objs.size+1)) { s2 with heap:=h₁,toks:=s2.toks+([]:List (Str×Value)).length }:=by
  rw[hsz]at J0
  refine codeAny_loop rfl (fun n s'=>∃ i H' ys v,Inv (blk X scope cl (M++[x]) (s2.heap.objs.size+1) { s2 with heap:=s2.heap.push { cls:=.type "list",data:=.seq ([]:List Value).toArray },toks:=s2.toks } (upd H2 s2.heap.objs.size (.lst [])) fp) [] (pick ι σ++[v]) H' s' /\ tn i s'.heap /\ (∀ b∈fp,H' b=none) /\ W i n ys H')
   (fun n s' hI=>?_) m0 ⟨0,_,[],none,J0,st₁,fun b hb=>(f3 b hb).1,w0⟩
  obtain⟨i,H',ys,v,J',st',fr',w'⟩:=hI;obtain⟨hD,alt⟩:=turn i n ys H' w'
  have fpY:∀{G:Hp},(∀ b∈fp,G b=none)->∀ b∈fp,pQ (blk X scope cl (M++[x]) (s2.heap.objs.size+1) { s2 with heap:=s2.heap.push { cls:=.type "list",data:=.seq ([]:List Value).toArray },toks:=s2.toks } (upd H2 s2.heap.objs.size (.lst [])) fp) [] G b:=fun hG b hb=>
   ⟨hG b hb,(J'.ok.exf b hb).1,J'.ok.exfs b hb,.inl hb,(J'.ok.exf b hb).2,fun p hp=>absurd (show p∈([]:List (Addr×Obj)) from hp) (by simp)⟩
  show wpAny _ _ ((compTurn _ 0 (.ref it) (.ref s2.heap.objs.size) (compEnvC scope cl (s2.heap.objs.size+1) X.env)).onRaise _) _ _ s';refine wpAny_noted (wpAny_noRaise ?_);rw[ye];refine wpAny_bind (wpAny_standAt (wpAny_bind ?_))
  rcases alt with⟨stop,qn⟩|⟨go,step⟩
  . refine thn (T.done (blk X scope cl (M++[x]) (s2.heap.objs.size+1) _ _ fp) rfl rfl rfl hc i [] s' _ H' _ J' (fpY fr') st' stop) fun r s4 ⟨hr,J4⟩=>?_
    subst hr;refine wpAny_pure ?_;obtain⟨m,hm,_⟩:=id J4.loc
    have I4:Inv X pins σ H' s4:=yR (h':=s4.heap) I3 hsz.symm f3 J4 ⟨rfl,fun _ _=>rfl⟩
    obtain⟨oC,es,ep,hoC,rC⟩:=id hm
    have fC:pQ X pins H' (s2.heap.objs.size+1):=I3.Dw (by rw[hsz];exact Nat.le_refl _) J4.free
    obtain⟨_,c1,c2,c3,c4,c5⟩:=id fC
    have I5:=I4.pinned (fp:=[s2.heap.objs.size+1]) (fun b hb=>by
     have z:b=s2.heap.objs.size+1:=by simpa using hb
     subst z;exact fC) fun b hb=>by
     have z:b=s2.heap.objs.size+1:=by simpa using hb
     subst z
     exact⟨oC,hoC,fun v z=>by rw[rC.1]at z;cases z⟩
    show wpAny _ _ (assign (.Name y py) X.env (.ref s2.heap.objs.size)) _ _ s4;refine wpAny_assign_Name (my I5 hN hiy hy (v:=.ref s2.heap.objs.size) rfl (fun s5 I6=>?_) hf)
    have hC5:s5.heap.get? (s2.heap.objs.size+1)=some oC:=(I6.pin (_,oC) (List.mem_append_right _ (List.mem_append_right _ (eX (List.mem_singleton.mpr rfl) hoC)))).1
    refine⟨m,⟨oC,es,ep,hC5,rC⟩,fun h' sb=>⟨_,H',(I6.kB).turned (t':=s5.toks) (it:=s2.heap.objs.size+1) (fun b o hb e=>(sb.2 b hb).trans e) J4.free c1 c3 c4 c5,qn⟩⟩
  . refine thn (T.item (blk X scope cl (M++[x]) (s2.heap.objs.size+1) _ _ fp) rfl rfl rfl hc i [] s' _ H' _ J' (fpY fr') st' go) fun r s4 ⟨u,hr,h4⟩=>?_
    subst hr;refine wpAny_bind (thn h4 fun _ s5 ⟨z,H5,J5,r5,y5,st5,fr5⟩=>?_)
    have J5':=J5.pinned (fpY fr5) (T.obj _ _ st5)
    have hxN:(M++[x])[M.length]?=some x:=by simp
    refine wpAny_bind ?_;refine wpAny_assign_Name ?_;refine my (X:=blk X scope cl (M++[x]) (s2.heap.objs.size+1) _ _ fp) (i:=M.length) (v:=z) J5' S.nd hxN (.inl (lookup_relabel_local S.var)) r5 (fun s6 J6=>?_) (.inr (lookup_relabel_local S.var))
    have hlp:(pick ι σ).length=M.length:=by
     have q:=congrArg List.length S.names;rw[List.length_map,List.length_map]at q;unfold pick;rw[List.length_map,q]
    have hset:(pick ι σ++[v]).set M.length (some z)=pick ι σ++[some z]:=by
     rw[<- hlp,List.set_append_right _ _ (Nat.le_refl _),Nat.sub_self];rfl
    rw[hset]at J6;refine wpAny_bind (wpAny_bind (thn (he _ _ _ _ _ s6 _ H5 _ J6 (step z H5 y5)) fun yv s7 ⟨y,H7,J7,r7,hD7,hz7,m',hm',w7⟩=>?_));refine wpAny_bind (thn (b7 (X:=blk X scope cl (M++[x]) (s2.heap.objs.size+1) _ _ fp) _ s7 _ H7 (.ref s2.heap.objs.size) [y] (.ref s2.heap.objs.size) [yv] (fun _ G=>G=upd H7 s2.heap.objs.size (.lst (ys++[y]))) J7 rfl (.cons r7 .nil) ⟨_,_,y,rfl,rfl,hD7,hz7,rfl⟩) fun _ s8 ⟨_,H8,J8,_,e8⟩=>?_);subst e8;refine wpAny_pure (wpAny_pure ⟨rfl,m',hm',i+1,_,_,some z,J8.kB,?_,fun b hb=>?_,w7⟩)
    . exact T.keep _ _ _ st5 fun b hb o e=>(J8.pin (b,o) (List.mem_append_right _ (List.mem_append_right _ (eX hb e)))).1
    . obtain⟨o,e,d⟩:=T.obj _ _ st5 b hb
      exact(J8.pin (b,o) (List.mem_append_right _ (List.mem_append_right _ (eX hb e)))).2.1
 rw[hsz]at *;exact codeAny_compStart_list loop (T.self X.A 0 _ _ _ st₁ loop)
end
end L2.E
namespace L2.P
open PySem PySem.Spec PyProof.Rows L2 L2.E
section
variable{K:PySem.W.Frag}{cls:String->Option Addr}{W:XW}{Av G S₀ S S' H H' B B':Hp}{ρ:ag}{σ:St}{Q:VK}
theorem Fu{ml me:ag->OE}{ι:List Nat}(hι:ι.Nodup)(hl:JE K cls W tl ml)(he:JE K cls (fun _ _ _ _=>False) te me):JE K cls W (uP (Kv K tl) ι te) (vJ ml ι me):=by
 intro Av G S₀ ρ σ S H Q I p
 refine hl.go I p fun r v S1 H1 I1 w1 r1 p1=>?_
 have ra:=r1.rd I1.sh
 cases e:r.pv with
 | tup xs=>
   rw[e]at p1 ra;obtain⟨a,vs,rfl,hq,hr⟩:=m9 ra
   refine⟨a,rfl,⟨vs,aK.tup I1.sh hq⟩,?_⟩
   dsimp only at p1
   cases em:dc me (dv ι ρ) xs with
   |exc c fs=>rw[em]at p1;exact p1.elim
   |bad=>rw[em]at p1;exact p1.elim
   | ok ys=>
     rw[em]at p1;simp only[noX]at p1;split at p1
     . rename_i hlen
       refine qX hι he I1 em hlen (fun k H' x g hx=>?_) (fun H' g=>⟨vs,aK.tup (I1.sh.trans g) hq,by rw[hr.length];exact Nat.le_refl _⟩) fun D S' H' w nD sD ⟨us,hD,rr⟩=>p1 (.ref D) S' H' w ⟨D,us,rfl,nD,sD,hD,rr⟩
       obtain⟨u,hu,ru⟩:=hr.get hx
       refine⟨⟨vs,u,aK.tup (I1.sh.trans g) hq,hu⟩,?_⟩
       rintro v' H2 ⟨rfl,hv⟩
       have:=hv vs (aK.tup (I1.sh.trans g) hq);rw[hu]at this;cases this
       exact⟨rfl,ru⟩
     . exact p1.elim
 |_=>rw[e]at p1;exact p1.elim
theorem A2{J:It}{ι:List Nat}{mc:ag->OT}{me:ag->OE}{xs ys:List PV}(hι:ι.Nodup)(hc:JT K cls (fun _ _ _ _=>False) tc mc)(he:JE K cls (fun _ _ _ _=>False) te me)(I:SR K cls Av G S₀ ρ σ S H)(hy:iQ mc me (dv ι ρ) xs=.ok ys)(hl:ys.length<=lim)
  (go:∀ k H' x,aK H H'->xs[k]?=some x->J.go k H' /\ ∀ v H2,J.yld k H' v H2->H2=H' /\ Rep K S x v) (stop:∀ H',aK H H'->J.stop xs.length H')
  (hQ:∀ D S' H',bj S H S' H'->H D=none->S' D=none->(∃ us,H' D=some (.lst us) /\ b0 K S' ys us)->Q (.ref D) H'):
  ∀ D,H D=none->∃ W:Nat->Nat->List V->Hp->Prop,(∃ m,W 0 m [] (upd H D (.lst []))) /\ ∀ i m us H',W i m us H' ->
    H' D=some (.lst us) /\ ((J.stop i H' /\ Q (.ref D) H') \/ (J.go i H' /\ ∀ x H2,J.yld i H' x H2->tc (L2.E.pick ι σ++[some x]) H2 fun b H4=>H4 D=some (.lst us) /\ if b=true then te (L2.E.pick ι σ++[some x]) H4 fun y H3=>H3 D=some (.lst us) /\ us.length<sizeLine /\ ∃ m',m'<m /\ W (i+1) m' (us++[y]) (upd H3 D (.lst (us++[y])))else ∃ m',m'<m /\ W (i+1) m' us H4)):=by
 intro D nD
 refine⟨fun k m us H'=>m+k=xs.length /\ H' D=some (.lst us) /\ ∃ S' zs ws,aK S S' /\ aK H H' /\ aK S' H' /\ (∀ b,S' b≠none->S b≠none \/ (H b=none /\ b≠D)) /\ b0 K S' zs us /\ iQ mc me (dv ι ρ) (xs.drop k)=.ok ws /\ ys=zs++ws,
  ⟨xs.length,rfl,bL,S,[],ys,aK.refl _,aK.new nD,I.sh.trans (aK.new nD),fun b z=>.inl z,.nil,hy,rfl⟩,?_⟩
 rintro k m us H' ⟨hm,hD,S',zs,ws,s1,g1,sh1,n1,r1,e1,rfl⟩
 refine⟨hD,?_⟩
 have hSD:S' D=none:=by
  cases q:S' D with
  |none=>rfl
  | some o=>
    rcases n1 D (by rw[q];simp)with z|⟨_,z⟩
    . exact absurd (I.sh.free nD) z
    . exact absurd rfl z
 by_cases hk:k<xs.length
 . refine .inr ?_
   have hx:xs[k]?=some xs[k]:=by simp[hk]
   obtain⟨hgo,hyld⟩:=go k H' xs[k] g1 hx
   refine⟨hgo,fun v H2 hv=>?_⟩
   obtain⟨rfl,rv⟩:=hyld v H2 hv;rw[List.drop_eq_getElem_cons hk]at e1
   have I1:SR K cls Av G S₀ ρ σ S' H2:=I.grow ⟨s1,g1,sh1,fun b z=>by
    rcases n1 b z with z|⟨z,_⟩
    . exact .inl z
    . exact .inr z⟩
   have Ip:=I1.pick hι (Rep.mono s1 rv);refine hc _ G S₀ _ _ S' H2 _ Ip ?_;unfold iQ at e1;split at e1
   . rename_i ec;rw[ec];intro S2 H3 w2
     have hSD2:S2 D=none:=by
      cases q:S2 D with
      |none=>rfl
      | some o=>
        rcases w2.new D (by rw[q];simp)with z|z
        . exact absurd hSD z
        . rw[hD]at z;cases z
     refine⟨w2.g _ _ hD,?_⟩
     rw[if_pos rfl];refine he _ G S₀ _ _ S2 H3 _ (Ip.grow w2) ?_
     cases em:me (dv ι ρ++[some (.sh xs[k])])with
     |exc c fs=>rw[em]at e1;cases e1
     |bad=>rw[em]at e1;cases e1
     | ok r=>
       rw[em]at e1;simp only[OE.gb]at e1
       cases es:mK r with
       |none=>rw[es]at e1;cases e1
       | some y=>
         rw[es]at e1
         dsimp only at e1
         cases e2:iQ mc me (dv ι ρ) (xs.drop (k+1))with
         |exc c fs=>rw[e2]at e1;cases e1
         |bad=>rw[e2]at e1;cases e1
         | ok zs'=>
           rw[e2]at e1;simp only[OA.gb]at e1;cases e1;intro u S4 H4 w4 r4;obtain⟨S3,w3,s3,ru⟩:=r4.share w4 es
           have hl2:(zs++y ::zs').length<=lim:=hl
           have w5:=w2.trans w3
           have hSD3:S3 D=none:=by
            cases q:S3 D with
            |none=>rfl
            | some o=>
              rcases w3.new D (by rw[q];simp)with z|z
              . exact absurd hSD2 z
              . rw[w2.g _ _ hD]at z;cases z
           refine⟨w5.g _ _ hD,?_,m - 1,by omega,by omega,bL,S3,zs++[y],zs',s1.trans w5.s,(g1.trans w5.g).upd nD,w3.sh.upd hSD3,fun b z=>?_,(r1.mono w5.s).append (.cons ru .nil),e2,by simp⟩
           . rw[r1.length,<- GJ];rw[List.length_append,List.length_cons]at hl2;omega
           . rcases w5.new b z with z|z
             . exact n1 b z
             . refine .inr ⟨g1.free z,fun e=>?_⟩;rw[e,hD]at z;cases z
   . rename_i ec;rw[ec];intro S2 H3 w2
     refine⟨w2.g _ _ hD,?_⟩
     rw[if_neg (by decide)]
     refine⟨m - 1,by omega,by omega,w2.g _ _ hD,S2,zs,ws,s1.trans w2.s,g1.trans w2.g,w2.sh,fun b z=>?_,r1.mono w2.s,e1,rfl⟩
     rcases w2.new b z with z|z
     . exact n1 b z
     . refine .inr ⟨g1.free z,fun e=>?_⟩;rw[e,hD]at z;cases z
   . cases e1
 . have hk':k=xs.length:=by omega
   subst hk';refine .inl ⟨stop H' g1,?_⟩;rw[List.drop_length]at e1;cases e1
   exact hQ D S' H' ⟨s1,g1,sh1,fun b z=>by
    rcases n1 b z with z|⟨z,_⟩
    . exact .inl z
    . exact .inr z⟩ nD hSD ⟨us,hD,by rw[List.append_nil];exact r1⟩
theorem BY{ml me:ag->OE}{mc:ag->OT}{ι:List Nat}(hι:ι.Nodup)(hl:JE K cls W tl ml)(hc:JT K cls (fun _ _ _ _=>False) tc mc)(he:JE K cls (fun _ _ _ _=>False) te me):JE K cls W (zp (Ah K tl) ι tc te) (wB ml ι mc me):=by
 intro Av G S₀ ρ σ S H Q I p
 refine hl.go I p fun r v S1 H1 I1 w1 r1 p1=>?_
 have ra:=r1.rd I1.sh
 cases e:r.pv with
 | lst xs=>
   rw[e]at p1 ra;obtain⟨a,vs,rfl,hq,hr⟩:=iJ ra
   refine⟨a,rfl,⟨vs,hq⟩,?_⟩
   dsimp only at p1
   cases em:iQ mc me (dv ι ρ) xs with
   |exc c fs=>rw[em]at p1;exact p1.elim
   |bad=>rw[em]at p1;exact p1.elim
   | ok ys=>
     rw[em]at p1;simp only[noX]at p1;split at p1
     . rename_i hlen
       refine A2 hι hc he I1 em hlen (fun k H' x g hx=>?_) (fun H' g=>⟨vs,aK.seq g hq,by rw[hr.length];exact Nat.le_refl _⟩) fun D S' H' w nD sD ⟨us,hD,rr⟩=>p1 (.ref D) S' H' w ⟨D,us,rfl,nD,sD,hD,rr⟩
       obtain⟨u,hu,ru⟩:=hr.get hx
       refine⟨⟨vs,u,aK.seq g hq,hu⟩,?_⟩
       rintro v' H2 ⟨rfl,hv⟩
       have:=hv vs (aK.seq g hq);rw[hu]at this;cases this
       exact⟨rfl,ru⟩
     . exact p1.elim
 |_=>rw[e]at p1;exact p1.elim
theorem LS{ma ms:ag->OE}(ha:JE K cls W ta ma)(hs:JE K cls W ts ms):JE K cls W (LO K ta ts) (HB ma ms):=by
 intro Av G S₀ ρ σ S H Q I p
 refine ha.go I p fun a v S1 H1 I1 w1 r1 p1=>hs.go I1 p1 fun k u S2 H2 I2 w2 r2 p2=>?_
 have ra:=(r1.rd I1.sh).mono w2.s w2.g;have rk:=r2.rd I2.sh;split at p2
 . rename_i xs n ea ek;split at p2
   . rename_i hn;rw[ea]at ra;rw[ek]at rk;obtain⟨q,vs,rfl,hq,hr⟩:=iJ ra
     refine⟨by rw[dg rk,hn],q,vs,rfl,hq,fun l hl=>?_⟩
     refine p2 _ S2 _ (bj.heap I2.sh hl) ⟨l,_,rfl,hl,I2.sh.free hl,bL,?_⟩;clear ea p2 hq ra
     induction xs generalizing vs with
     |nil=>rw[hr.nil_inv];exact .nil
     | cons x xs ih=>
       obtain⟨y,t,rfl,h1,h2⟩:=hr.cons_inv;rw[List.reverse_cons,List.reverse_cons]
       exact(ih _ h2).append (.cons h1 .nil)
   . exact p2.elim
 . exact p2.elim
theorem yD:JU K (fun xs H Q=>∃ p ys,xs=[.ref p] /\ ((SqL K H p ys /\ ∀ l,H l=none->Q (.ref l) (upd H l (.tup ys))) \/ (SqT K H p ys /\ Q (.ref p) H))) nM:=by
 intro S H x v rr Q I hx e k
 cases x with
 | lst xs=>
   cases e;obtain⟨p,vs,rfl,hq,r⟩:=iJ hx
   refine⟨p,vs,rfl,.inl ⟨hq,fun l hl=>k _ _ _ (bj.both I hl) ?_⟩⟩
   show Rep K _ _ _;unfold Rep
   exact⟨l,vs,rfl,SqT.new bL,r.mono (bj.both (o:=.tup vs) I hl).s⟩
 | tup xs=>
   cases e;obtain⟨p,vs,rfl,hq,r⟩:=m9 hx
   refine⟨p,vs,rfl,.inr ⟨aK.tup I hq,k _ S H (bj.refl I) ?_⟩⟩
   show Rep K _ _ _;unfold Rep
   exact⟨p,vs,rfl,hq,r⟩
 |_=>cases e
end
end L2.P
namespace L2.E
open PySem PySem.Spec PyProof.Rows L2
theorem DW{X:Cx}{cl:List (Str×Addr)}(S:oJ X scope cl M ι x)(hc:X.calm=true)(hi:QI X (.Name x px) iter wi)(hcd:∀ C s₀ H₀ ex,QT (blk X scope cl (M++[x]) C s₀ H₀ ex) c tc)(he:∀ C s₀ H₀ ex,QE (blk X scope cl (M++[x]) C s₀ H₀ ex) elt te)
  (hs:∀ v,foldedSetIterable iter X.env v=pure v:=by intro _;rfl):QE X (.ListComp elt [⟨.Name x px,iter,[c],0⟩] scope pos) (zp wi ι tc te):=⟨Dz S hc hi.out (fun a b c d=>(hcd a b c d).out) (fun a b c d=>(he a b c d).out) hs⟩
theorem Lu{X:Cx}{e st:Expr}{te ts:TE}{pos p2:Pos}(he:QE X e te)(hk:QE X st ts):QE X (.Subscript e (.Slice none none (some st) p2) pos) (LO X.K te ts):=⟨Ky he.out hk.out⟩
theorem II{X:Cx}{cl:List (Str×Addr)}{py spos:Pos}(hN:X.N.Nodup)(hiy:X.N[i]?=some y)(hy:Loc X.env.scope y)(S:oJ X scope cl M ι x)(hc:X.calm=true)(hi:QI X (.Name x px) iter wi)(he:∀ C s₀ H₀ ex,QE (blk X scope cl (M++[x]) C s₀ H₀ ex) elt te)
  (hsw:swapsWith (.ListComp elt [⟨.Name x px,iter,[],0⟩] scope pos) (some (.Name y py)) spos.line X.env=pure true:=by rfl) (hf:X.fn y=true \/ X.env.scope.names.lookup y=some .local:=by first|exact .inl rfl|exact .inr rfl|assumption)
  (hs:∀ v,foldedSetIterable iter X.env v=pure v:=by intro _;rfl):QS X (.Assign [.Name y py] (.ListComp elt [⟨.Name x px,iter,[],0⟩] scope pos) spos) (vm (uP wi ι te) (mm i)):=⟨HN S hc hi.out (fun a b c d=>(he a b c d).out) hN hiy hy hsw hf hs⟩
noncomputable def MN(p:Int×V)(e:DictEntry):Prop:=e.hash=hashInt p.1 /\ (∃ t,e.key=.int p.1 t) /\ RelV p.2 e.val
noncomputable def DKI(K:PySem.W.Frag)(d:Addr)(kvs:List (Int×V)):Prop:=(d==sysModules)=false /\ (kvs.map (·.1)).Nodup /\ ∃(es:List DictEntry) (ep:Nat),K.lookup d=some ⟨.type "dict",none,.dict es.toArray ep,#[]⟩ /\ Paired MN kvs es
theorem Ak{prog:Program}{w:World}:∀{kvs:List (Int×V)} {es:List DictEntry},Paired MN kvs es ->
  ∃ us:List (Int×Value),us.map (·.1)=kvs.map (·.1) /\ Pairs (intKind prog w) es us /\ (∀ e∈es,∃ k,(intKind prog w).is k e.key=true /\ e.hash=(intKind prog w).hash k) /\
    ∀ n,match kvs.lookup n with
      |some v=>∃ u,valueAt us n=some u /\ RelV v u
      |none=>valueAt us n=none
 |_,_,.nil=>⟨[],rfl,.nil,fun e he=>(nomatch he),fun n=>rfl⟩
 | (n,v) ::kvs,e ::es,.cons h t=>by
   obtain⟨us,h1,h2,h3,h4⟩:=Ak (prog:=prog) (w:=w) t;obtain⟨k1,⟨tk,k2⟩,k3⟩:=h
   have hk:(intKind prog w).is n e.key=true:=by rw[k2];show Value.isInt n (.int n tk)=true;simp[Value.isInt]
   refine⟨(n,e.val) ::us,by simp[h1],.cons hk rfl h2,fun e' he'=>?_,fun m=>?_⟩
   . rcases List.mem_cons.mp he' with z|z
     . subst z;exact⟨n,hk,k1⟩
     . exact h3 e' z
   . have:=h4 m
     by_cases hm:m=n
     . subst hm;simp[List.lookup,valueAt];exact k3
     . have hb:(m==n)=false:=by simpa using hm
       have hn:¬ n=m:=fun z=>hm z.symm
       simp only[List.lookup,hb]
       unfold valueAt at this ⊢
       simp only[List.find?_cons,hn,decide_false];exact this
theorem DKI.at{X:Cx}{pins:List (Addr×Obj)}{σ:St}{H:Hp}{s:Shared}{d:Addr}{kvs:List (Int×V)}(D:DKI X.K d kvs)(I:Inv X pins σ H s):
  ∃ us:List (Int × Value),s.heap.DictOf (intKind X.prog X.w) d us /\ ∀ n,match kvs.lookup n with
     |some v=>∃ u,valueAt us n=some u /\ RelV v u
     |none=>valueAt us n=none:=by
 obtain⟨_,nd,es,ep,hk,pr⟩:=D;obtain⟨us,h1,h2,h3,h4⟩:=Ak (prog:=X.prog) (w:=X.w) pr
 exact⟨us,⟨_,es.toArray,ep,I.kIn d _ hk,⟨rfl,rfl,rfl⟩,rfl,fun e he=>h3 e (by simpa using he),by simpa using h2,by rw[h1];exact nd⟩,h4⟩
section
variable{X:Cx}
noncomputable def JK(K:PySem.W.Frag):R2:=fun x y H Q=>∃ d kvs n v,x=.ref d /\ y=.int n /\ DKI K d kvs /\ kvs.lookup n=some v /\ Q v H
theorem M4:IxR X (JK X.K):=by
 intro value slice pins s σ H x y v u Q I rx ry h hs;obtain⟨d,kvs,n,z,rfl,rfl,D,hl,q⟩:=h;cases rx;obtain⟨t,rfl⟩:=ry;obtain⟨us,dd,hv⟩:=D.at I;have h2:=hv n;rw[hl]at h2;obtain⟨w,e,rw'⟩:=h2;refine tail_any (ops:=[.ref d,.int n t]) dd.typeIs slot_dict_getitem.lookup ?_ hs;exact wpAny_getItem_of (knd:=intKind X.prog X.w) (k:=n) (by show Value.isInt n (.int n t)=true;simp[Value.isInt]) dd.mapOf e ⟨z,H,I.tok _,rw',q⟩
noncomputable def Ga(K:PySem.W.Frag)(td te:TE):TE:=fun σ H Q=>td σ H fun x H1=>∃ d kvs,x=.ref d /\ DKI K d kvs /\ te σ H1 fun y H2=>∃ n,y=.int n /\ Q ((kvs.lookup n).getD .non) H2
theorem Aw{o e:Expr}{td te:TE}{apos cpos:Pos}(ho:QE X o td)(he:QE X e te)(hbase:attributeBase o "get" X.env (eval o X.env)=eval o X.env:=by rfl)
  (few:((backTo cpos (starEach [e] X.env)).all (fun x=>!x.1)&&(backToKw cpos (keywordEach [] X.env)).all (fun x=>x.1.isSome)&&decide (([e]:List Expr).length+([]:List Keyword).length+(if([]:List Keyword).isEmpty then 0 else 1)<30))=true:=by rfl)
  (line:(apos.endLine==cpos.line)=true:=by rfl) (trees:backTo cpos (starEach [e] X.env)=[(false,eval e X.env)]:=by rfl):QE X (.Call (.Attribute o "get" apos) [e] [] cpos) (Ga X.K td te):=⟨by
 intro pins s σ H Q I h;refine wpAny_Call_method hbase few line PySem.F.plainAttrs_dict PySem.F.slot_dict_get PySem.F.type_dict_get (thn (ho.out pins s σ H _ I h) fun u s1 ⟨x,H1,I1,rx,d,kvs,ex,D,q1⟩=>?_);subst ex
 obtain rfl:u=Value.ref d:=rx
 obtain⟨us,dd,hv⟩:=D.at I1;obtain⟨_,nd,es,ep,hk,pr⟩:=id D
 refine⟨dd.typeIs,fun b hb=>by cases hb;exact⟨_,I1.kIn d _ hk,rfl⟩,?_⟩
 rw[trees];refine Calls.callWith_builtin rfl (Calls.evalArgs_plain (Calls.spliced_cons (thn (he.out pins s1 σ H1 _ I1 q1) fun iv s2 ⟨y,H2,I2,ry,n,ey,q2⟩=>Calls.spliced_nil ?_)));subst ey;obtain⟨t,rfl⟩:=ry;obtain⟨us2,dd2,hv2⟩:=D.at I2;refine call_meetsIn PySem.F.slot_dict_get dd2.typeIs PySem.F.entry_dict_get (PySem.F.args_dict_get_2 _ _) (meets_dict_get (intKind X.prog X.w) d (k:=n) (key:=.int n t) (by show Value.isInt n (.int n t)=true;simp[Value.isInt]) D.1) ⟨_,dd2.mapOf,⟨_,H2,I2.tok _,?_,q2⟩⟩;have h2:=hv2 n
 cases q:kvs.lookup n with
 |none=>rw[q]at h2;rw[h2];rfl
 |some v=>rw[q]at h2;obtain⟨u,e,r⟩:=h2;rw[e];exact r⟩
end
end L2.E
namespace L2.P
open PySem PySem.Spec PyProof.Rows L2 L2.E
section
variable{K:PySem.W.Frag}{cls:String->Option Addr}{W:XW}{Av G S₀ S S' H H' B B':Hp}{ρ:ag}{σ:St}{Q:VK}
noncomputable def DKP(K:PySem.W.Frag)(d:Addr)(kvs:List (Int×PV)):Prop:=∃ us,DKI K d us /\ Paired (fun (p:Int×PV) (q:Int×V)=>p.1=q.1 /\ ∀ S,Rep K S p.2 q.2) kvs us
theorem DKP.look{d:Addr}:∀{kvs:List (Int×PV)} {us:List (Int×V)},Paired (fun (p:Int×PV) (q:Int×V)=>p.1=q.1 /\ ∀ S,Rep K S p.2 q.2) kvs us->∀ n,match kvs.lookup n with
  |some x=>∃ v,us.lookup n=some v /\ ∀ S,Rep K S x v
  |none=>us.lookup n=none
 |_,_,.nil,n=>rfl
 | (k,x) ::kvs,(k',v) ::us,.cons h t,n=>by
   obtain⟨rfl,hr⟩:=h;have:=DKP.look (d:=d) t n
   by_cases hm:n=k
   . subst hm;simp[List.lookup];exact hr
   . have hb:(n==k)=false:=by simpa using hm
     simp only[List.lookup,hb];exact this
theorem HW{d:Addr}{kvs:List (Int×PV)}{ta:TE}{ma:ag->OE}(D:DKP K d kvs)(ha:JE K cls W ta ma):JE K cls W (tOp (JK K) (tC (.ref d)) ta) (mUn (Cf kvs) ma):=by
 intro Av G S₀ ρ σ S H Q I p
 refine ha.go I p fun a v S1 H1 I1 w1 r1 p1=>?_
 have ra:=r1.rd I1.sh
 cases e:a.pv with
 | int n=>
   rw[e]at p1 ra;obtain⟨us,D1,pr⟩:=D;have:=DKP.look (d:=d) pr n;simp only[Cf]at p1
   cases q:kvs.lookup n with
   |none=>rw[q]at p1;exact p1.elim
   | some x=>
     rw[q]at p1 this;obtain⟨u,eu,hr⟩:=this
     exact⟨d,us,n,u,rfl,dg ra,D1,eu,p1 _ S1 H1 (bj.refl I1.sh) (hr S1)⟩
 |_=>rw[e]at p1;exact p1.elim
theorem A0{d:Addr}{kvs:List (Int×PV)}{ta:TE}{ma:ag->OE}(D:DKP K d kvs)(ha:JE K cls W ta ma):JE K cls W (Ga K (tC (.ref d)) ta) (mUn (ib kvs) ma):=by
 intro Av G S₀ ρ σ S H Q I p;obtain⟨us,D1,pr⟩:=D
 refine⟨d,us,rfl,D1,?_⟩
 refine ha.go I p fun a v S1 H1 I1 w1 r1 p1=>?_
 have ra:=r1.rd I1.sh
 cases e:a.pv with
 | int n=>
   rw[e]at p1 ra;have:=DKP.look (d:=d) pr n;simp only[ib,oE]at p1
   refine⟨n,dg ra,?_⟩
   cases q:kvs.lookup n with
   | none=>
     rw[q]at p1 this;rw[this];exact p1 _ S1 H1 (bj.refl I1.sh) (by show Rep K S1 _ _;unfold Rep;rfl)
   | some x=>
     rw[q]at p1 this;obtain⟨u,eu,hr⟩:=this;rw[eu];exact p1 _ S1 H1 (bj.refl I1.sh) (hr S1)
 |_=>rw[e]at p1;exact p1.elim
end
end L2.P
namespace L2.E
open PySem PySem.Spec PyProof.Rows L2
end L2.E
namespace L2.P
open PySem PySem.Spec PyProof.Rows L2 L2.E
end L2.P
namespace L2.P
open PySem
end L2.P
namespace L2.P
open PySem PySem.Spec PyProof.Rows L2 L2.E
end L2.P
namespace L2.P
open PySem
noncomputable def yU(x:Str):List PV:=x.cps.toList.map fun c=>.str ⟨#[c]⟩
noncomputable def qM(ml:ag->OE)(ι:List Nat)(me:ag->OE):ag->OE:=fun ρ=>(ml ρ).bind fun r=>match r.pv with
 |.str x=>noX (dc me (dv ι ρ) (yU x))
 |_=>.bad
@[simp] theorem F5(ml:ag->OE)(ι:List Nat)(me:ag->OE)(ρ:ag):qM ml ι me ρ=((ml ρ).bind fun r=>match r.pv with
  |.str x=>noX (dc me (dv ι ρ) (yU x))
  |_=>.bad):=rfl
noncomputable def EK:PV->Option RV
 |.str x=>if x.length=1 then some (.sh (.int (x.cps.getD 0 0:Nat)))else none
 |_=>none
noncomputable def qk:PV->Option RV
 |.int i=>if i.natAbs.log2<1920 then some (.sh (.str (toString i)))else none
 |_=>none
end L2.P
namespace L2
open PySem PySem.Spec PyProof.Rows
noncomputable def Its(x:Str):It:=⟨fun i _=>i<x.cps.size,fun i H v H'=>H'=H /\ ∃ c,x.cps[i]?=some c /\ v=.str ⟨#[c]⟩,fun i _=>x.cps.size<=i⟩
theorem zT{P:Program}{w:World}{K:PySem.W.Frag}{tg:Expr}{it:Addr}{x:Str}{t:Tok}{n:String}(hn:["enumerate","zip","dict_itemiterator","dict_reverseitemiterator","odict_iterator","itertools.zip_longest","itertools.pairwise"].contains n=false)
  (W:∀ A:Around,A.handled=none->Walks P w A it [it] [it] x.cps.size (SignAt x) (fun i h=>h.IsStrIter it n x t i))
  (De:∀(A:Around) (s:Shared) (i:Nat) (Q:Option Value->Shared->Prop) (E:Value->Shared->Prop),A.handled=none->s.heap.IsStrIter it n x t i->x.cps[i]?=none->(∀ h',Heap.ExtBut it s.heap h'->Q none { s with heap:=h' })->wpAny (model P w) A (pyNext (.ref it)) Q E s)
  (Se:∀(A:Around) (i:Nat) (s:Shared) (Q:Value->Shared->Prop) (E:Value->Shared->Prop),s.heap.IsStrIter it n x t i->Q (.ref it) s->wpAny (model P w) A (pyIter (.ref it)) Q E s):Turn P w K tg (Its x) [it] it (fun i h=>h.IsStrIter it n x t i) where
 mem:=by simp
 obj:=fun i h st b hb=>by
  have e:b=it:=by simpa using hb
  subst e;obtain⟨o,e,c,d⟩:=st
  exact⟨o,e,fun v z=>by rw[d]at z;cases z⟩
 keep:=fun i h h' st k=>let ⟨o,e,r⟩:=st;⟨o,k it (by simp) o e,r⟩
 item:=by
  intro X hP hw hK hc i pins s σ H E I hf st hg;subst hP hw hK;obtain⟨f0,f1,f2,f3,f4,f5⟩:=hf it (by simp)
  refine(W X.A (I.ok.hd hc)).item i s _ _ hg st fun v h' tk hv st' kk=>?_
  obtain⟨c,u,hc1,rfl⟩:=hv
  have I1:Inv X pins σ H { s with heap:=h',toks:=tk }:=I.turned (fun b o hb e=>kk b o (by simpa using hb) e) f0 f1 f3 f4 f5
  obtain⟨o,e,cc,d⟩:=id st'
  exact⟨_,rfl,Cb (s:={ s with heap:=h',toks:=tk }) e cc d hn ⟨.str ⟨#[c]⟩,H,I1,⟨u,rfl⟩,⟨rfl,c,hc1,rfl⟩,st',fun b hb=>(hf b hb).1⟩⟩
 done:=by
  intro X hP hw hK hc i pins s σ H E I hf st hg;subst hP hw hK;obtain⟨f0,f1,f2,f3,f4,f5⟩:=hf it (by simp)
  have hg':x.cps.size<=i:=hg
  exact De X.A s i _ _ (I.ok.hd hc) st (by simp;omega) fun h' eb=>⟨rfl,I.turned (t':=s.toks) (fun b o hb e=>eb b o hb e) f0 f1 f3 f4 f5⟩
 self:=fun A i s Q E st h=>Se A i s Q E st h
noncomputable def JW(tl:TE):TI:=fun σ H R=>tl σ H fun v H1=>∃ x,v=.str x /\ R (Its x) H1
theorem KL{X:Cx}{tg:Expr}{l:Expr}{tl:TE}(hl:PE X l tl):PI X tg l (JW tl):=by
 intro pins s σ H R I h
 refine thn (hl pins s σ H _ I h) fun v s1 ⟨y,H1,I1,r1,q1⟩=>?_
 obtain⟨x,e,q⟩:=q1;subst e;obtain⟨t,rfl⟩:=r1
 have hf:∀ b∈[s1.heap.objs.size],pQ X pins H1 b:=fun b hb=>by
  have e:b=s1.heap.objs.size:=by simpa using hb
  subst e;exact I1.Dw (Nat.le_refl _) (I1.hok.fresh (Nat.le_refl _))
 cases ha:x.cps.all (·<128)with
 | false=>
   exact wpAny_pyIter_wide ha ⟨s1.heap.objs.size,[s1.heap.objs.size],_,_,H1,rfl,I1.kept (t':=s1.toks) fun b o e=>Heap.get?_push_of_some _ e,
    zT (n:="str_iterator") (x:=x) (t:=t) (by decide) (fun A' hA=>Walks.strWide hA _ x t) (fun A s i Q E hA st hx hQ=>wpAny_pyNext_wide_end hA st hx hQ) (fun A i s Q E st h=>wpAny_pyIter_striter_wide st h),⟨_,Heap.get?_push_size _ rfl,rfl,rfl⟩,hf,q⟩
 | true=>
   exact wpAny_pyIter_ascii ha ⟨s1.heap.objs.size,[s1.heap.objs.size],_,_,H1,rfl,I1.kept (t':=s1.toks) fun b o e=>Heap.get?_push_of_some _ e,
    zT (n:="str_ascii_iterator") (x:=x) (t:=t) (by decide) (fun A' hA=>Walks.strAscii hA _ x t) (fun A s i Q E hA st hx hQ=>wpAny_pyNext_ascii_end hA st hx hQ) (fun A i s Q E st h=>wpAny_pyIter_striter_ascii st h),⟨_,Heap.get?_push_size _ rfl,rfl,rfl⟩,hf,q⟩
end L2
theorem L2.E.boot_ord:PySem.bootBuiltins "ord" = some (.builtin "ord"):=by decide +kernel
namespace L2.P
open PySem PySem.Spec PyProof.Rows L2 L2.E
theorem FJ{X:L2.Cx}{tg l:Expr}{tl:TE}(h:QE X l tl):QI X tg l (JW tl):=⟨KL h.out⟩
section
variable{K:PySem.W.Frag}{cls:String->Option Addr}{W:XW}{Av G S₀ S S' H H' B B':Hp}{ρ:ag}{σ:St}{Q:VK}{F:Nat->List Addr}
theorem AW{tl te:TE}{ml me:ag->OE}{ι:List Nat}(hι:ι.Nodup)(hl:JE K cls W tl ml)(he:JE K cls (fun _ _ _ _=>False) te me):JE K cls W (uP (JW tl) ι te) (qM ml ι me):=by
 intro Av G S₀ ρ σ S H Q I p
 refine hl.go I p fun r v S1 H1 I1 w1 r1 p1=>?_
 have ra:=r1.rd I1.sh
 cases e:r.pv with
 | str x=>
   rw[e]at p1 ra;have hv:=j3 ra;subst hv
   refine⟨x,rfl,?_⟩
   dsimp only at p1
   cases em:dc me (dv ι ρ) (yU x)with
   |exc c fs=>rw[em]at p1;exact p1.elim
   |bad=>rw[em]at p1;exact p1.elim
   | ok ys=>
     rw[em]at p1;simp only[noX]at p1;split at p1
     . rename_i hlen
       have hcl:(yU x).length=x.cps.size:=by simp[yU]
       refine qX hι he I1 em hlen (fun k H' y g hx=>?_) (fun H' g=>by show x.cps.size<=(yU x).length;rw[hcl];exact Nat.le_refl _) fun D S' H' w nD sD ⟨us,hD,rr⟩=>p1 (.ref D) S' H' w ⟨D,us,rfl,nD,sD,hD,rr⟩
       have hk:k<x.cps.size:=by rw[<- hcl];exact(List.getElem?_eq_some_iff.mp hx).1
       refine⟨hk,?_⟩
       rintro v' H2 ⟨rfl,c,hc,rfl⟩
       refine⟨rfl,?_⟩
       have hy:y=.str ⟨#[c]⟩:=by
        unfold yU at hx;rw[List.getElem?_map]at hx
        have:x.cps.toList[k]?=some c:=by simpa using hc
        rw[this]at hx
        exact(Option.some.inj hx).symm
       subst hy;unfold Rep;rfl
     . exact p1.elim
 |_=>rw[e]at p1;exact p1.elim
theorem LI:JU K (fun xs H Q=>∃ x,xs=[.str x] /\ x.length=1 /\ Q (.int (x.cps.getD 0 0:Nat)) H) EK:=by
 intro S H x v rr Q I hx e k
 cases x with
 | str x=>
   by_cases hl:x.length=1
   . have e':EK (.str x)=some (.sh (.int (x.cps.getD 0 0:Nat))):=if_pos hl
     rw[e']at e;cases e
     exact⟨x,by rw[j3 hx],hl,k _ S H (bj.refl I) (by show Rep K S _ _;unfold Rep;rfl)⟩
   . have e':EK (.str x)=none:=if_neg hl
     rw[e']at e;cases e
 |_=>cases e
theorem Gy:JU K (fun xs H Q=>∃ i:Int,xs=[.int i] /\ i.natAbs.log2<1920 /\ Q (.str (toString i)) H) qk:=by
 intro S H x v rr Q I hx e k
 cases x with
 | int i=>
   by_cases hl:i.natAbs.log2<1920
   . have e':qk (.int i)=some (.sh (.str (toString i))):=if_pos hl
     rw[e']at e;cases e
     exact⟨i,by rw[dg hx],hl,k _ S H (bj.refl I) (by show Rep K S _ _;unfold Rep;rfl)⟩
   . have e':qk (.int i)=none:=if_neg hl
     rw[e']at e;cases e
 |_=>cases e
end
end L2.P
namespace HT
open PySem PyProof.Rows
end HT
namespace L2
open PySem PySem.Spec PyProof.Rows
end L2
namespace L2.P
open PySem PySem.Spec PyProof.Rows L2 L2.E
end L2.P
namespace HT
open PySem PyProof.Rows
open AutoSeq1 (wpAny_loadPart')
end HT
namespace L2
open PySem PySem.Spec PyProof.Rows
end L2
namespace L2.P
open PySem PySem.Spec PyProof.Rows L2 L2.E
end L2.P
namespace L2.P
open PySem
noncomputable def ju(kvs:List (Int×PV))(a b:RV):OE:=match a.pv,b with
 |.int n,.sh d=>.ok (.sh ((kvs.lookup n).getD d))
 |_,_=>.bad
noncomputable def yW(kvs:List (Int×PV))(ma mb:ag->OE):ag->OE:=fun ρ=>(ma ρ).bind fun a=>(mb ρ).bind fun b=>ju kvs a b
@[simp] theorem MA(kvs:List (Int×PV))(ma mb:ag->OE)(ρ:ag):yW kvs ma mb ρ=(ma ρ).bind fun a=>(mb ρ).bind fun b=>ju kvs a b:=rfl
noncomputable def LW(kvs:List (Int×Int)):ag->OD:=fun _=>.ok (.di (kvs.map fun p=>(p.1,.int p.2)))
noncomputable def zH(neg:Bool)(me:ag->OE)(i:Nat)(mp:MP):ag->OE:=fun ρ=>(me ρ).bind fun r=>match r.pv with
 | .int n=>(match subAt i mp ρ with
   |some (.di kvs)=>.ok (.sh (.bl (if neg then !(kvs.lookup n).isSome else(kvs.lookup n).isSome)))
   |_=>.bad)
 |_=>.bad
noncomputable def C8(i:Nat)(mp:MP)(me:ag->OE):ag->OE:=fun ρ=>match subAt i mp ρ with
 | some (.di kvs)=>(me ρ).bind fun r=>(match r.pv with
   |.int n=>oE ((kvs.lookup n).map .sh)
   |_=>.bad)
 |_=>.bad
noncomputable def B9:ag->OS:=fun _=>.bad
noncomputable def Cj:PV->Option RV
 | .str x=>(match x.cps.toList with
   |[c]=>if 48<=c /\ c<=57 then some (.sh (.int ((c:Int) - 48)))else none
   |_=>none)
 |_=>none
noncomputable def dP(i:Nat)(mp:MP)(me:ag->OE):ag->OS:=fun ρ=>vd i mp ρ fun u put=>match u with
 | .ol ts=>(me ρ).cy ρ fun r=>(match r with
   |.fr ys=>if ts.length+ys.length<=lim then .nx (put (.ol (ts++ys.map .sh)))else .bad
   |.sh (.lst ys)=>if ts.length+ys.length<=lim then .nx (put (.ol (ts++ys.map .sh)))else .bad
   |_=>.bad)
 |_=>.bad
end L2.P
namespace L2
open PySem PySem.Spec PyProof.Rows
end L2
namespace L2.E
open PySem PySem.Spec PyProof.Rows L2
section
variable{X:Cx}
noncomputable def CS(K:PySem.W.Frag)(td te tf:TE):TE:=fun σ H Q=>td σ H fun x H1=>∃ d kvs,x=.ref d /\ DKI K d kvs /\ te σ H1 fun y H2=>tf σ H2 fun z H3=>∃ n,y=.int n /\ Q ((kvs.lookup n).getD z) H3
theorem El{o e f:Expr}{td te tf:TE}{apos cpos:Pos}(ho:QE X o td)(he:QE X e te)(hf:QE X f tf)(hbase:attributeBase o "get" X.env (eval o X.env)=eval o X.env:=by rfl)
  (few:((backTo cpos (starEach [e,f] X.env)).all (fun x=>!x.1)&&(backToKw cpos (keywordEach [] X.env)).all (fun x=>x.1.isSome)&&decide (([e,f]:List Expr).length+([]:List Keyword).length+(if([]:List Keyword).isEmpty then 0 else 1)<=15))=true:=by rfl)
  (line:(apos.endLine==cpos.line)=true:=by rfl) (trees:backTo cpos (starEach [e,f] X.env)=[(false,eval e X.env),(false,eval f X.env)]:=by rfl):QE X (.Call (.Attribute o "get" apos) [e,f] [] cpos) (CS X.K td te tf):=⟨by
 intro pins s σ H Q I h;refine wpAny_Call_method hbase few line PySem.F.plainAttrs_dict PySem.F.slot_dict_get PySem.F.type_dict_get (thn (ho.out pins s σ H _ I h) fun u s1 ⟨x,H1,I1,rx,d,kvs,ex,D,q1⟩=>?_);subst ex
 obtain rfl:u=Value.ref d:=rx
 obtain⟨us,dd,hv⟩:=D.at I1;obtain⟨_,nd,es,ep,hk,pr⟩:=id D
 refine⟨dd.typeIs,fun b hb=>by cases hb;exact⟨_,I1.kIn d _ hk,rfl⟩,?_⟩
 rw[trees];refine Calls.callWith_builtin rfl (Calls.evalArgs_plain (Calls.spliced_cons (thn (he.out pins s1 σ H1 _ I1 q1) fun iv s2 ⟨y,H2,I2,ry,q2⟩=>Calls.spliced_cons (thn (hf.out pins s2 σ H2 _ I2 q2) fun fv s3 ⟨z,H3,I3,rz,n,ey,q3⟩=>Calls.spliced_nil ?_))));subst ey;obtain⟨t,rfl⟩:=ry;obtain⟨us2,dd2,hv2⟩:=D.at I3;refine call_meetsIn PySem.F.slot_dict_get dd2.typeIs PySem.F.entry_dict_get (PySem.F.args_dict_get_3 _ _ _) (meets_dict_get_default (intKind X.prog X.w) d (k:=n) (key:=.int n t) (by show Value.isInt n (.int n t)=true;simp[Value.isInt]) D.1 fv) ⟨_,dd2.mapOf,_,H3,I3.tok _,?_,q3⟩;have h2:=hv2 n
 cases q:kvs.lookup n with
 |none=>rw[q]at h2;rw[h2];exact rz
 |some v=>rw[q]at h2;obtain⟨u,e,r⟩:=h2;rw[e];exact r⟩
noncomputable def Jq:TS:=fun _ _ _=>False
theorem Ho{e:Stmt}:QS X e Jq:=⟨fun _ _ _ _ _ _ h=>h.elim⟩
end
end L2.E
namespace L2.P
open PySem PySem.Spec PyProof.Rows L2 L2.E
section
variable{K:PySem.W.Frag}{cls:String->Option Addr}{W:XW}{S:Hp}
theorem DC{d:Addr}{kvs:List (Int×PV)}{ta tb:TE}{ma mb:ag->OE}(D:DKP K d kvs)(ha:JE K cls W ta ma)(hb:JE K cls W tb mb):JE K cls W (CS K (tC (.ref d)) ta tb) (yW kvs ma mb):=by
 intro Av G S₀ ρ σ S H Q I p;obtain⟨us,D1,pr⟩:=D
 refine⟨d,us,rfl,D1,?_⟩
 refine ha.go I p fun a v S1 H1 I1 w1 r1 p1=>hb.go I1 p1 fun b u S2 H2 I2 w2 r2 p2=>?_
 have ra:=(r1.rd I1.sh).mono w2.s w2.g
 cases e:a.pv with
 | int n=>
   rw[e]at ra;have:=DKP.look (d:=d) pr n
   cases b with
   |fr xs=>unfold ju at p2;rw[e]at p2;exact p2.elim
   |al xs=>unfold ju at p2;rw[e]at p2;exact p2.elim
   | sh x=>
     unfold ju at p2;rw[e]at p2
     refine⟨n,dg ra,?_⟩
     cases q:kvs.lookup n with
     | none=>
       simp only[q]at p2 this;rw[this];exact p2 _ S2 H2 (bj.refl I2.sh) r2
     | some y=>
       simp only[q]at p2 this;obtain⟨u,eu,hr⟩:=this;rw[eu];exact p2 _ S2 H2 (bj.refl I2.sh) (hr S2)
 |_=>unfold ju at p2;rw[e]at p2;exact p2.elim
theorem I8:JS K cls W Jq B9:=fun _ _ _ _ _ _ _ _ _ p=>p
end
end L2.P
namespace L2.E
open PySem PySem.Spec PyProof.Rows L2
section
variable{X:Cx}{o i:Expr}{td ty:TE}{pos:Pos}
theorem Ke(hu:X.A.units+1<cLine)(hi:QE X i ty)(ho:QE X o td)(h1:behindInMarks .In o=false:=by first|exact An _ (by decide) (by decide)|rfl):QT X (.Compare i [.In] [o] pos) (tB (K2 ty td)):=⟨K7 (KD hu hi.out ho.out) h1⟩
theorem Ht(hu:X.A.units+1<cLine)(ho:QE X o td)(hi:QE X i ty)(hs:Lp i):QE X (.Subscript o i pos) (Gf td ty):=⟨HE hu ho.out hi.out hs⟩
structure QPs(X:Cx)(pos:Pos)(keys:List (Option Expr))(values:List Expr)(trs:List (TE×TE)):Prop where
 out:PPs X pos keys values trs
theorem GS:QPs X pos [] [] []:=⟨GW⟩
theorem kI{ks:List (Option Expr)}{trs:List (TE×TE)}(hk:QE X k tk)(hv:QE X v tv)(hr:QPs X pos ks vs trs):QPs X pos (some k ::ks) (v ::vs) ((tk,tv) ::trs):=⟨Gd hk.out hv.out hr.out⟩
theorem IP{keys:List (Option Expr)}{values:List Expr}{trs:List (TE×TE)}(h:QPs X pos keys values trs)(hall:keys.all (·.isSome)=true:=by rfl)(hl:keys.length=values.length:=by rfl)(h0:keys≠[]:=by intro z;cases z)(h15:keys.length<=15:=by decide):QE X (.Dict keys values pos) (Gk trs):=⟨Hw h.out hall hl h0 h15⟩
end
end L2.E
namespace L2.P
open PySem PySem.Spec PyProof.Rows L2 L2.E
section
variable{K:PySem.W.Frag}{cls:String->Option Addr}{W:XW}{S H:Hp}
theorem zI(kvs:List (Int×Int))(σ:St):∀(H:Hp) (R:List (V×V)->Hp->Prop),R (kvs.map fun p=>(.int p.1,.int p.2)) H->zh (kvs.map fun p=>(tC (.int p.1),tC (.int p.2))) σ H R:=by
 induction kvs with
 |nil=>intro H R h;exact h
 |cons p kvs ih=>intro H R h;exact ih H _ h
theorem Ec(more:List (Key×V)):∀ kvs:List (Key×V),((kvs++more).map (·.1)).Nodup->pP kvs more=kvs++more:=by
 induction more with
 |nil=>intro kvs _;simp[pP]
 | cons p more ih=>
   intro kvs h
   have hn:nL kvs p.1=none:=by
    unfold nL;rw[Option.map_eq_none_iff,List.find?_eq_none];intro q hq e
    have e':q.1=p.1:=of_decide_eq_true e
    rw[List.map_append,List.nodup_append]at h;exact h.2.2 q.1 (List.mem_map_of_mem hq) p.1 (by simp) e'
   show pP (putK kvs p.1 p.2) more=_;rw[F8 _ hn,ih _ (by simpa using h)];simp
theorem Lv{kvs:List (Int×Int)}(nd:(kvs.map (·.1)).Nodup)(h15:kvs.length<=15):JD K cls W (Gk (kvs.map fun p=>(tC (.int p.1),tC (.int p.2)))) (LW kvs):=by
 intro Av G S₀ ρ σ S H Q I p;intro q hq;refine zI kvs σ _ _ ⟨bL,kvs.map fun p=>(Sum.inl p.1,V.int p.2),by simp[kV],by simpa using h15,?_⟩
 rw[Hk,Ec _ [] (by
  rw[List.nil_append,List.map_map]
  have:((fun x:Key×V=>x.1) ∘ fun p:Int×Int=>((Sum.inl p.1:Key),V.int p.2))=(fun k:Int=>(Sum.inl k:Key)) ∘ fun p:Int×Int=>p.1:=rfl
  rw[this,<- List.map_map]
  exact List.pairwise_map.mpr (List.Pairwise.imp (fun h z=>h (Sum.inl.inj z)) nd)),List.nil_append]
 refine p (.ref q) S _ (bj.heap I.sh hq) ⟨[q],?_,by simp,fun a ha=>?_⟩
 . unfold bz
   refine⟨q,_,rfl,bL,rfl,?_⟩
   clear nd h15 p
   induction kvs with
   |nil=>exact .nil
   |cons x kvs ih=>exact .cons ⟨rfl,by unfold Rep;rfl⟩ ih
 . have z:a=q:=by simpa using ha
   subst z
   exact⟨hq,I.sh.free hq⟩
theorem yC.look{kvs:List (Int×PV)}{us:List (Key×V)}(h:yC K S kvs us)(n:Int):match kvs.lookup n with
  |some x=>∃ v,nL us (Sum.inl n:Key)=some v /\ Rep K S x v
  |none=>nL us (Sum.inl n:Key)=none:=by
 induction h with
 |nil=>rfl
 | @cons p q ps qs h t ih=>
   obtain⟨h1,h2⟩:=h;obtain⟨k,x⟩:=p;obtain⟨k',v⟩:=q
   dsimp only at h1 h2
   subst h1
   by_cases hm:n=k
   . subst hm;simp[List.lookup,nL];exact h2
   . have hb:(n==k)=false:=by simpa using hm
     have hd:decide ((Sum.inl k:Key)=Sum.inl n)=false:=decide_eq_false fun z=>hm (Sum.inl.inj z).symm
     simp only[List.lookup,hb]
     have e:nL ((Sum.inl k,v) ::qs) (Sum.inl n:Key)=nL qs (Sum.inl n):=by
      unfold nL;rw[List.find?_cons,hd]
     rw[e];exact ih
theorem yC.GU{kvs:List (Int×PV)}{us:List (Key×V)}(h:yC K S kvs us)(n:Int):(nL us (Sum.inl n:Key)).isSome=(kvs.lookup n).isSome:=by
 have:=h.look n
 cases q:kvs.lookup n with
 |none=>rw[q]at this;rw[this];rfl
 |some x=>rw[q]at this;obtain⟨v,e,_⟩:=this;rw[e];rfl
theorem Ii{ma:ag->OE}(ha:JE K cls W ta ma)(hp:JP K cls td i mp):JE K cls W (K2 ta td) (zH false ma i mp):=by
 intro Av G S₀ ρ σ S H Q I p
 refine ha.go I p fun a v S1 H1 I1 w1 r1 p1=>?_
 have ra:=r1.rd I1.sh
 cases e:a.pv with
 | int n=>
   rw[e]at p1 ra
   dsimp only at p1
   split at p1
   . rename_i kvs es
     refine hp.sub I1 es fun w S2 H2 f w2 _ r=>?_
     unfold bz at r;obtain⟨q,us,rfl,hq,_,hd⟩:=r;have hv:=dg ra;subst hv
     refine⟨q,_,rfl,zt.k (k:=Sum.inl n) hq,?_⟩
     rw[hd.GU n];exact p1 _ S2 H2 w2 o8
   . exact p1.elim
 |_=>rw[e]at p1;exact p1.elim
theorem Ib{ma:ag->OE}(hp:JP K cls td i mp)(ha:JE K cls W ta ma):JE K cls W (Gf td ta) (C8 i mp ma):=by
 intro Av G S₀ ρ σ S H Q I p;unfold C8 at p;split at p
 . rename_i kvs es
   refine hp.sub I es fun w S2 H2 f w2 I2 r=>?_
   refine ha.go I2 (p.back w2) fun a v S1 H1 I1 w1 r1 p1=>?_
   have ra:=r1.rd I1.sh
   have r':=r.mono w1.s fun a _ o z=>w1.g _ _ z
   unfold bz at r';obtain⟨q,us,rfl,hq,_,hd⟩:=r'
   cases e:a.pv with
   | int n=>
     rw[e]at p1 ra
     dsimp only at p1
     have hv:=dg ra;subst hv;have hl:=hd.look n
     cases el:kvs.lookup n with
     |none=>rw[el]at p1;exact p1.elim
     | some x=>
       rw[el]at p1 hl;obtain⟨u,eu,ru⟩:=hl
       refine⟨q,u,rfl,by have:=zt.k (k:=(Sum.inl n:Key)) hq;rw[eu]at this;exact this,p1 u S1 H1 (bj.refl I1.sh) ru⟩
   |_=>rw[e]at p1;exact p1.elim
 . exact p.elim
end
end L2.P
namespace L2.E
open PySem PySem.Spec PyProof.Rows L2
end L2.E
namespace L2.P
open PySem PySem.Spec PyProof.Rows L2 L2.E
end L2.P
namespace L2.E
open PySem PySem.Spec PyProof.Rows L2
theorem D9{X:Cx}:nZ X (.type "int") (fun xs H Q=>∃ x n,xs=[.str x] /\ PySem.intText? x=some n /\ x.length<=640 /\ Q (.int n) H):=by
 intro pins s σ H xs us Q I r h;obtain⟨x,n,rfl,h1,h2,q⟩:=h;obtain⟨u,rfl,t,rfl⟩:=vals1 r;exact PySem.W.KIN.call_text h1 h2 ⟨.int n,H,I.tok _,⟨_,rfl⟩,q⟩
theorem B0{x:Str}{c:Nat}(h:x.cps.toList=[c])(h1:48<=c)(h2:c<=57):PySem.intText? x=some ((c:Int) - 48) /\ x.length<=640:=by
 have e:x=⟨#[c]⟩:=by
  cases x with
  | mk a=>cases a with
    |mk l=>simp at h;subst h;rfl
 subst e
 refine⟨?_,by show 1<=640;decide⟩
 have hc:c=48 \/ c=49 \/ c=50 \/ c=51 \/ c=52 \/ c=53 \/ c=54 \/ c=55 \/ c=56 \/ c=57:=by omega
 rcases hc with rfl|rfl|rfl|rfl|rfl|rfl|rfl|rfl|rfl|rfl<;>decide +kernel
end L2.E
namespace L2.P
open PySem PySem.Spec PyProof.Rows L2 L2.E
theorem Iz{K:PySem.W.Frag}:JU K (fun xs H Q=>∃ x n,xs=[.str x] /\ PySem.intText? x=some n /\ x.length<=640 /\ Q (.int n) H) Cj:=by
 intro S H x v rr Q sh r e k
 cases x with
 | str z=>
   have hv:v=.str z:=by have r':Rep K S (.str z) v:=r;unfold Rep at r';exact r'
   subst hv;unfold Cj at e
   dsimp only at e
   split at e
   . rename_i c hc;split at e
     . rename_i h;cases e;obtain⟨h1,h2⟩:=B0 hc h.1 h.2
       exact⟨z,_,rfl,h1,h2,k _ S H (bj.refl sh) (by show Rep K S _ _;unfold Rep;rfl)⟩
     . cases e
   . cases e
 |_=>cases e
end L2.P
namespace L2.E
open PySem PySem.Spec PyProof.Rows L2
theorem yu(l:Addr)(items:Array Value)(n:Nat)(b:Addr)(items2:Array Value)(n2:Nat)(dd2:Option Addr)(sl2:Array (Option Value))(hc0:¬(!items.isEmpty&&Builtin.List.listTooLong (items.size+items2.size))=true)(hc1:items.size<=sizeLine)(hs2:items.size+items2.size<=sizeLine+1):
  Meets (Builtin.«list.extend» ⟨[.ref l,.ref b],[]⟩) (fun _ R s=>s.heap.get? l=some { cls:=.type "list",dict:=none,data:=.seq items n,slots:=#[] } /\ s.heap.get? b=some { cls:=.type "list",dict:=dd2,data:=.seq items2 n2,slots:=sl2 } /\ R (.ok (.ret Value.none)) { s with heap:=s.heap.update l (Obj.mapSeq fun x=>x++items2),toks:=s.toks }):=
 .of_wp fun prog w A R s h=>by
  obtain⟨hp,g,d,tk,os⟩:=s;obtain⟨hl,hb,h⟩:=h;have f1:=AutoSeq1.idx_int;have f2:=AutoSeq1.sub_tuple_tuple;have f3:=AutoSeq1.sub_list_list;have f4:=AutoSeq1.sub_tuple_list;have f5:=AutoSeq1.sub_list_tuple
  have hz':(items++items2).size<=sizeLine+1:=by rw[Array.size_append];exact hs2
  wp_walk using (wpAny_updateSeq hl rfl (hz:=hc1) (_hz':=hz')),wpAny_loadPart' hl,wpAny_loadPart' hb;exact⟨_,rfl,h⟩
noncomputable def zN(K:PySem.W.Frag):V->List V->Hp->VK->Prop:=fun x vs H Q=>∃ l b xs zs,x=.ref l /\ vs=[.ref b] /\ H l=some (.lst xs) /\ SqL K H b zs /\ xs.length+zs.length<=sizeLine /\ Q .non (upd H l (.lst (xs++zs)))
theorem gu{X:Cx}:MtM X "list.extend" (zN X.K):=by
 intro pins s σ H x vs v us Q I rx rv h;obtain⟨l,b,xs,zs,rfl,rfl,hH,hB,hz,q⟩:=h;cases rx;obtain⟨u,rfl,ru⟩:=rv.one;cases ru;obtain⟨z,its,n,r,hl,e⟩:=I.Le hH;obtain⟨its2,r2,pl2,z2⟩:=I.list hB;obtain⟨⟨cls2,dd2,data2,sl2⟩,ho2,hc2,n2,hd2⟩:=pl2.isList;simp only at hc2 hd2;subst hc2 hd2;have hl2:=r2.length
 have hsz:its.toArray.size+its2.toArray.size<=sizeLine:=by rw[List.size_toArray,List.size_toArray];omega
 have hlong:¬ (!its.toArray.isEmpty&&Builtin.List.listTooLong (its.toArray.size+its2.toArray.size))=true:=by
  rw[EX hsz,Bool.and_false];exact Bool.false_ne_true
 refine call_meets F.slot_list_extend ⟨_,e,rfl⟩ F.entry_list_extend (F.args_list_extend_2 _ _)
  (yu l its.toArray n b its2.toArray n2 dd2 sl2 hlong (by rw[List.size_toArray];omega) (by omega)) ⟨e,ho2,?_⟩
 refine⟨.non,_,I.Lh (its':=its++its2) hH e (by simp) (r.append r2) ?_,rfl,q⟩
 rw[List.length_append];omega
end L2.E
namespace L2.P
open PySem PySem.Spec PyProof.Rows L2 L2.E
section
variable{K:PySem.W.Frag}{cls:String->Option Addr}{W:XW}{Av G S₀ S S' H H' B B':Hp}{ρ:ag}{σ:St}{Q:VK}{F:Nat->List Addr}
theorem gk{i:Nat}{te tx:TE}{mp:MP}{me:ag->OE}(hp:JP K cls te i mp)(hx:JE K cls W tx me):JS K cls W (uX (tBM K "list" (zN K) te (jx tx mG))) (dP i mp me):=by
 intro Av G S₀ ρ σ S H D I p;obtain⟨io,t,π,u,hi,e0,e1,p⟩:=ub p;obtain⟨v0,hv⟩:=I.val hi
 cases u with
 |sh x=>exact p.elim
 |ob c ks us=>exact p.elim
 |di x=>exact p.elim
 |dt x=>exact p.elim
 | ol ts=>
   dsimp only at p
   refine hp.at I hi hv e0 e1 fun w S1 H1 w1 I1 wk=>?_
   have p1:=p.back w1.s;obtain⟨F,J1⟩:=id I1;obtain⟨q,vs,ff,rest,wk',hq,hl,rs,_,nd,c⟩:=J1.vC hi hv e1;have:=wk.inj wk';subst this
   refine⟨.inl ⟨rfl,_,SqL.new hq⟩,?_⟩
   refine hx.goS I1 p1 fun r v S2 H2 I2 w2 r2 p2=>?_
   have ndf:ff.Nodup:=(List.nodup_cons.mp (List.nodup_append.mp nd).1).2
   cases r with
   |al ys=>exact p2.elim
   | sh x=>
     cases x with
     | lst ys=>
       dsimp only at p2
       split at p2
       . rename_i hlt
         have r3:Rep K S2 (.lst ys) v:=r2
         unfold Rep at r3;obtain⟨b,us,rfl,k3,k4⟩:=r3
         refine⟨q,b,vs,us,rfl,rfl,w2.g _ _ hq,aK.seq w2.sh k3,by rw[hl,k4.length];exact hlt,?_⟩
         obtain⟨g,J3,_⟩:=c S2 H2 (ts++ys.map .sh) (vs++us) (ff++[]) w2 ((rs.mono w2.s fun a _ o h=>w2.g _ _ h).append (.shs k4)) (by rw[List.append_nil];exact ndf) fun a ha=>.inl (by simpa using ha)
         exact p2 σ S2 _ ⟨_,J3⟩ (aK.refl _)
       . exact p2.elim
     |_=>exact p2.elim
   | fr ys=>
     dsimp only at p2
     split at p2
     . rename_i hlt;obtain⟨b,us,rfl,k1,k2,k3,k4⟩:=r2
       refine⟨q,b,vs,us,rfl,rfl,w2.g _ _ hq,SqL.new k3,by rw[hl,k4.length];exact hlt,?_⟩
       obtain⟨g,J3,_⟩:=c S2 H2 (ts++ys.map .sh) (vs++us) (ff++[]) w2 ((rs.mono w2.s fun a _ o h=>w2.g _ _ h).append (.shs k4)) (by rw[List.append_nil];exact ndf) fun a ha=>.inl (by simpa using ha)
       exact p2 σ S2 _ ⟨_,J3⟩ (aK.refl _)
     . exact p2.elim
end
end L2.P
namespace L2.E
open PySem PySem.Spec PyProof.Rows L2
theorem eD{N P:List Str}{sc:Scope}(a:sc.kind=.function:=by rfl)(b:sc.isCoroutine=false:=by rfl)(c:sc.isGenerator=false:=by rfl)(d:N.Nodup:=by decide +kernel)(e:N.take P.length=P:=by rfl)
  (f:∀ x∈P,sc.names.lookup x=some .local \/ sc.names.lookup x=some .cell:=by decide +kernel) (g:∀ y∈sc.names,y.2≠.free:=by decide +kernel):aT N P sc:=⟨a,b,c,d,e,f,g⟩
structure Ent(K:PySem.W.Frag)(mg:Str->Option Value)(x:Str)(st:Stmt)(f:Addr)(d:FuncData)(ps:List Str):Prop where
 F:Fun K x x st f d
 m:mg x=some (.ref f)
 b:Binds K d ps []
structure Fd(K:PySem.W.Frag)(x:Str)(st:Stmt)(f:Addr)(d:FuncData):Prop where
 a:PySem.W.nsIn K mainGlobals x=some (some (.ref f))
 F:Fun K x x st f d
section
variable{K:PySem.W.Frag}{mg:Str->Option Value}{h:Heap}{x:Str}{st:Stmt}{f:Addr}{d:FuncData}
theorem cC{oc:Value}{od an:Option Addr}{osl:Array (Option Value)}{kV doc pm cdv ct:Value}(a:PySem.W.nsIn K mainGlobals x=some (some (.ref f)))
  (l:K.lookup f=some ⟨oc,od,.func (PySem.W.fnOf x x (fe st) (dO st) (aA st) .none kV doc pm an cdv ct),osl⟩) (c:PySem.W.codeIn K cdv x=true) (k:PySem.W.keepIn K (.ref f)=true):
  Fd K x st f (PySem.W.fnOf x x (fe st) (dO st) (aA st) .none kV doc pm an cdv ct):=⟨a,mj l c k⟩
theorem Fd.e{ps:List Str}(H:Fd K x st f d)(X:K.In h)(G:h.Ns mainGlobals mg)
  (hb:∀(kV doc pm:Value) (an:Option Addr) (cdv ct:Value) (us:List Value),us.length=ps.length->bindArgs (PySem.W.fnOf x x (fe st) (dO st) (aA st) .none kV doc pm an cdv ct) ⟨us,[]⟩=pure (ps.zip us)):Ent K mg x st f d ps:=⟨H.F,PySem.W.mg_of X G H.a,H.F.binds hb⟩
theorem Fd.e0(H:Fd K x st f d)(X:K.In h)(G:h.Ns mainGlobals mg)
  (hb:∀(kV doc pm:Value) (an:Option Addr) (cdv ct:Value),bindArgs (PySem.W.fnOf x x (fe st) (dO st) (aA st) .none kV doc pm an cdv ct) ⟨[],[]⟩=pure []:=by intros;rfl):Ent K mg x st f d []:=
 H.e X G fun p q r s t u us hl=>match us,hl with|[],_=>hb p q r s t u
theorem Fd.e1{a:Str}(H:Fd K x st f d)(X:K.In h)(G:h.Ns mainGlobals mg)
  (hb:∀(kV doc pm:Value) (an:Option Addr) (cdv ct i:Value),bindArgs (PySem.W.fnOf x x (fe st) (dO st) (aA st) .none kV doc pm an cdv ct) ⟨[i],[]⟩=pure [(a,i)]:=by intros;rfl):Ent K mg x st f d [a]:=
 H.e X G fun p q r s t u us hl=>match us,hl with|[_],_=>hb p q r s t u _
theorem Fd.e2{a b:Str}(H:Fd K x st f d)(X:K.In h)(G:h.Ns mainGlobals mg)
  (hb:∀(kV doc pm:Value) (an:Option Addr) (cdv ct i j:Value),bindArgs (PySem.W.fnOf x x (fe st) (dO st) (aA st) .none kV doc pm an cdv ct) ⟨[i,j],[]⟩=pure [(a,i),(b,j)]:=by intros;rfl):Ent K mg x st f d [a,b]:=
 H.e X G fun p q r s t u us hl=>match us,hl with|[_,_],_=>hb p q r s t u _ _
theorem Fd.e3{a b c:Str}(H:Fd K x st f d)(X:K.In h)(G:h.Ns mainGlobals mg)
  (hb:∀(kV doc pm:Value) (an:Option Addr) (cdv ct i j k:Value),bindArgs (PySem.W.fnOf x x (fe st) (dO st) (aA st) .none kV doc pm an cdv ct) ⟨[i,j,k],[]⟩=pure [(a,i),(b,j),(c,k)]:=by intros;rfl):Ent K mg x st f d [a,b,c]:=
 H.e X G fun p q r s t u us hl=>match us,hl with|[_,_,_],_=>hb p q r s t u _ _ _
theorem Fd.e5{a b c e g:Str}(H:Fd K x st f d)(X:K.In h)(G:h.Ns mainGlobals mg)
  (hb:∀(kV doc pm:Value) (an:Option Addr) (cdv ct i j k l m:Value),bindArgs (PySem.W.fnOf x x (fe st) (dO st) (aA st) .none kV doc pm an cdv ct) ⟨[i,j,k,l,m],[]⟩=pure [(a,i),(b,j),(c,k),(e,l),(g,m)]:=by intros;rfl):Ent K mg x st f d [a,b,c,e,g]:=
 H.e X G fun p q r s t u us hl=>match us,hl with|[_,_,_,_,_],_=>hb p q r s t u _ _ _ _ _
end
theorem qz{X:Cx}{pos:Pos}(i:Nat)(h7:X.N.Nodup)(h10:QE X e te)(h8:X.N[i]?=some x:=by rfl)(h9:Loc X.env.scope x:=by first|exact Or.inl rfl|exact Or.inr rfl)
  (h11:autoParam (swapsWith e (some (.Name x pos')) pos.line X.env=pure false) L2.qau._auto_1) (h12:autoParam (X.fn x=true \/ X.env.scope.names.lookup x=some .local) L2.qau._auto_1):QS X (.Assign [.Name x pos'] e pos) (vm te (mm i)):=LN h7 h8 h9 h10 h11 h12
theorem qx{X:Cx}{j k:Nat}{f:Addr}{fd:FuncData}{ps:List Str}{sp:Sp}{W:XW}{x:Str}{st:Stmt}{p pos:Pos}{e:Expr}{es:List Expr}{t:TA}(h15:cx X.prog X.w X.K X.mg X.base (CXE X.prog X.w) j f fd ps sp)(E:Ent X.K X.mg x st f fd ps)(h16:iK k X.A)(h22:Thr X W)(h23:QA X (e ::es) t)
  (hj:j<=k:=by decide) (h17:Gl X x:=by rfl) (h24:autoParam ((x==Str.ofString "__debug__")=false) L2.qau._auto_1) (h25:autoParam (starEach (e ::es) X.env=(false,eval e X.env) ::starEach es X.env) L2.qau._auto_1) (h26:autoParam (((backTo pos (starEach es X.env)).any fun x=>x.1)=false) L2.qau._auto_1):
  QE X (.Call (.Name x p) (e ::es) [] pos) (sf sp [] W t):=FG (h15.mono hj) h16 h17 E.m E.F.kp E.b .nil h22 h23 h24 h25 h26
theorem kK{X:Cx}(h11:X.mg "len" = none)(h:QE X e te)(h10:Gl X "len":=by rfl)(hs:isStar e=false:=by rfl)(h16:autoParam (starEach [e] X.env=(false,eval e X.env) ::starEach [] X.env) L2.qau._auto_1)(h17:autoParam (((backTo pos (starEach [] X.env)).any fun x=>x.1)=false) L2.qau._auto_1):
  QE X (.Call (.Name "len" p) [e] [] pos) (tCB (fun xs H Q=>∃ p ys,xs=[.ref p] /\ (SqL X.K H p ys \/ SqT X.K H p ys) /\ Q (.int ys.length) H) (jx te mG)):=jz ym h10 h11 boot_len (aa h av hs) (by decide) (by decide) h16 h17
theorem qi(h7:IxR X r)(h8:QE X a ta)(h9:QE X b tb)(h10:zr b:=by exact fun _ _=>rfl):QE X (.Subscript a b pos) (tOp r ta tb):=MO h7 h8 h9 h10
theorem bM(h8:OpR X (compareOp op) r)(h9:QE X a ta)(h10:QE X b tb)(h11:behindInMarks op b=false:=by exact mI _):QT X (.Compare a [op] [b] pos) (xS (tOp r ta tb)):=ir h8 h9 h10 h11
theorem qap{X:Cx}{apos cpos pos:Pos}{r:V->List V->Hp->VK->Prop}(h15:MtR X "list.append" r)(h16:QE X o to)(h:QE X e te)(hs:isStar e=false:=by rfl)
  (h18:autoParam (attributeBase o "append" X.env (eval o X.env)=eval o X.env) L2.qau._auto_1) (h19:autoParam (((((backTo cpos (starEach [e] X.env)).all fun x=>!x.1)&&(backToKw cpos (keywordEach [] X.env)).all fun x=>x.1.isSome)&&decide (([e].length+([]:List Keyword).length+if([]:List Keyword).isEmpty=true then 0 else 1)<30))=true) L2.qau._auto_1)
  (h20:autoParam ((apos.endLine==cpos.line)=true) L2.qau._auto_1) (h21:autoParam (starEach [e] X.env=(false,eval e X.env) ::starEach [] X.env) L2.qau._auto_1) (h22:autoParam (((backTo cpos (starEach [] X.env)).any fun x=>x.1)=false) L2.qau._auto_1) (h5:autoParam (swapsWith (.Call (.Attribute o "append" apos) [e] [] cpos) none pos.line X.env=pure false) L2.qau._auto_1):
  QS X (.Expr (.Call (.Attribute o "append" apos) [e] [] cpos) pos) (uX (tBM X.K "list" r to (jx te mG))):=y6 (Jc PySem.F.plainAttrs_list PySem.F.slot_list_append PySem.F.type_list_append h15 h16 (aa h av hs) h18 h19 h20 h21 h22) h5
theorem qex{X:Cx}{apos cpos pos:Pos}{r:V->List V->Hp->VK->Prop}(h15:MtR X "list.extend" r)(h16:QE X o to)(h:QE X e te)(hs:isStar e=false:=by rfl)
  (h18:autoParam (attributeBase o "extend" X.env (eval o X.env)=eval o X.env) L2.qau._auto_1) (h19:autoParam (((((backTo cpos (starEach [e] X.env)).all fun x=>!x.1)&&(backToKw cpos (keywordEach [] X.env)).all fun x=>x.1.isSome)&&decide (([e].length+([]:List Keyword).length+if([]:List Keyword).isEmpty=true then 0 else 1)<30))=true) L2.qau._auto_1)
  (h20:autoParam ((apos.endLine==cpos.line)=true) L2.qau._auto_1) (h21:autoParam (starEach [e] X.env=(false,eval e X.env) ::starEach [] X.env) L2.qau._auto_1) (h22:autoParam (((backTo cpos (starEach [] X.env)).any fun x=>x.1)=false) L2.qau._auto_1) (h5:autoParam (swapsWith (.Call (.Attribute o "extend" apos) [e] [] cpos) none pos.line X.env=pure false) L2.qau._auto_1):
  QS X (.Expr (.Call (.Attribute o "extend" apos) [e] [] cpos) pos) (uX (tBM X.K "list" r to (jx te mG))):=y6 (Jc PySem.F.plainAttrs_list PySem.F.slot_list_extend PySem.F.type_list_extend h15 h16 (aa h av hs) h18 h19 h20 h21 h22) h5
end L2.E
namespace L2.P
open PySem PySem.Spec PyProof.Rows L2 L2.E
theorem jU{K:PySem.W.Frag}{cls:String->Option Addr}{mk:ag->OE}(h:JP K cls te i mp)(k:JE K cls (fun _ _ _ _=>False) tk mk):JP K cls (tOp (Iv K) te tk) i (pIx i mp mk):=MW h k
end L2.P
namespace L2.P
open PySem
theorem OV.get_nil(t:OV):t.get []=some t:=by unfold OV.get;rfl
theorem OV.lG(t u:OV):t.put [] u=u:=by unfold OV.put;rfl
theorem OV.sR{ts:List OV}{j:Nat}{u:OV}(h:ts[j]?=some u)(π:List Stp):(OV.ol ts).get (.ix j ::π)=u.get π:=by
 rw[OV.get];simp[OV.at1,h]
theorem OV.BE{ts:List OV}{j:Nat}{u x:OV}(h:ts[j]?=some u)(π:List Stp):(OV.ol ts).put (.ix j ::π) x=.ol (ts.set j (u.put π x)):=by
 rw[OV.put];simp[OV.at1,h,OV.gn]
theorem bO{ρ:ag}{i:Nat}{s:Sl}{t:OV}(h:ρ[i]?=some (some s))(hs:slT s=some t):gB i ρ=some t:=by
 unfold gB;rw[h];exact hs
theorem lJ{ρ:ag}{i j:Nat}{ts:List OV}{mk:ag->OE}{r:RV}{k:Int}(h:gB i ρ=some (.ol ts))(hk:mk ρ=.ok r)(hr:r.pv=.int k)(hj:ixP ts.length k=some j):pIx i aI mk ρ=some [.ix j]:=by
 unfold pIx;rw[h];simp[aI,OV.get_nil,hk,hr,hj]
theorem yo{ρ:ag}{i j j2:Nat}{ts us:List OV}{mp:MP}{mk:ag->OE}{r:RV}{k:Int}(h:gB i ρ=some (.ol ts))(hp:mp ρ=some [.ix j])(hu:ts[j]?=some (.ol us))(hk:mk ρ=.ok r)(hr:r.pv=.int k)(hj:ixP us.length k=some j2):pIx i mp mk ρ=some [.ix j,.ix j2]:=by
 unfold pIx;rw[h,hp];simp[OV.sR hu,OV.get_nil,hk,hr,hj]
theorem subAt_one{ρ:ag}{i j:Nat}{ts:List OV}{mp:MP}{u:OV}(h:gB i ρ=some (.ol ts))(hp:mp ρ=some [.ix j])(hu:ts[j]?=some u):subAt i mp ρ=some u:=by
 unfold subAt;rw[h,hp];simp[OV.sR hu,OV.get_nil]
theorem ug{ρ:ag}{i j j2:Nat}{ts us:List OV}{mp:MP}{u:OV}(h:gB i ρ=some (.ol ts))(hp:mp ρ=some [.ix j,.ix j2])(hv:ts[j]?=some (.ol us))(hu:us[j2]?=some u):subAt i mp ρ=some u:=by
 unfold subAt;rw[h,hp];simp[OV.sR hv,OV.sR hu,OV.get_nil]
theorem jq{ρ:ag}{i:Nat}{t:OV}(h:gB i ρ=some t):subAt i aI ρ=some t:=by
 unfold subAt;rw[h];simp[aI,OV.get_nil]
theorem ou{ρ:ag}{i:Nat}{mp:MP}{x:PV}(h:subAt i mp ρ=some (.sh x)):de i mp ρ=.ok (.sh x):=by unfold de;rw[h]
theorem wI{ρ:ag}{i:Nat}{mp:MP}{ts:List OV}(h:subAt i mp ρ=some (.ol ts)):gJ i mp ρ=.ok (.sh (.int ts.length)):=by unfold gJ;rw[h]
theorem vY{ρ:ag}{i:Nat}{mp:MP}{ts:List OV}(h:subAt i mp ρ=some (.ol ts)):dE i mp ρ=.ok (!ts.isEmpty):=by unfold dE;rw[h]
theorem IU{ρ:ag}{i:Nat}{io:Bool}{ts:List OV}{x:OV}(h:ρ[i]?=some (some (.tr io (.ol (ts++[x]))))):mR i aI ρ=.ok (ρ.set i (some (.tr io (.ol ts)))) (slO x):=by
 unfold mR;rw[h];simp[aI,OV.get_nil,OV.lG]
theorem vD{ρ:ag}{i:Nat}{io:Bool}{ts:List OV}{x:OV}{md:ag->OD}(h:ρ[i]?=some (some (.tr io (.ol ts))))(hd:md ρ=.ok x)(hl:ts.length<lim):bR i aI md ρ=.nx (ρ.set i (some (.tr io (.ol (ts++[x]))))):=by
 unfold bR vd;rw[h];simp only[aI,OV.get_nil,hd,hl,if_true,OV.lG]
theorem Cp{ρ:ag}{i j j2:Nat}{io:Bool}{ts us xs:List OV}{x:OV}{mp:MP}{md:ag->OD}(h:ρ[i]?=some (some (.tr io (.ol ts))))(hp:mp ρ=some [.ix j,.ix j2])(hv:ts[j]?=some (.ol us))(hu:us[j2]?=some (.ol xs))(hd:md ρ=.ok x)(hl:xs.length<lim):
  bR i mp md ρ=.nx (ρ.set i (some (.tr io (.ol (ts.set j (.ol (us.set j2 (.ol (xs++[x]))))))))):=by
 unfold bR vd;rw[h,hp];simp only[OV.sR hv,OV.sR hu,OV.get_nil,hd,hl,if_true,OV.BE hv,OV.BE hu,OV.lG]
theorem vp{ρ:ag}{i j j2:Nat}{io:Bool}{ts us:List OV}{x:OV}{mp:MP}{mk:ag->OE}{md:ag->OD}{r:RV}{k:Int}(h:ρ[i]?=some (some (.tr io (.ol ts))))(hp:mp ρ=some [.ix j])(hv:ts[j]?=some (.ol us))(hk:mk ρ=.ok r)(hr:r.pv=.int k)(hj:ixP us.length k=some j2)(hd:md ρ=.ok x):
  qj i mp mk md ρ=.nx (ρ.set i (some (.tr io (.ol (ts.set j (.ol (us.set j2 x))))))):=by
 unfold qj vd;rw[hd];dsimp only;rw[h,hp];simp only[OV.sR hv,OV.get_nil,hk,hU,hr,hj,OV.BE hv,OV.lG]
theorem GB{ρ:ag}{i:Nat}{io:Bool}{ts:List OV}{ys:List PV}{me:ag->OE}(h:ρ[i]?=some (some (.tr io (.ol ts))))(he:me ρ=.ok (.fr ys) \/ me ρ=.ok (.sh (.lst ys)))(hl:ts.length+ys.length<=lim):dP i aI me ρ=.nx (ρ.set i (some (.tr io (.ol (ts++ys.map .sh))))):=by
 unfold dP vd;rw[h]
 rcases he with he|he<;>simp only[aI,OV.get_nil,he,hU,hl,if_true,OV.lG]
theorem bt{m n:ag->OS}{ρ ρ':ag}(h:m ρ=.nx ρ'):aG m n ρ=n ρ':=by unfold aG;rw[h];rfl
theorem Ld{m n:ag->OS}{ρ ρ':ag}{v:RV}(h:m ρ=.rt ρ' v):aG m n ρ=.rt ρ' v:=by unfold aG;rw[h];rfl
theorem CA(ρ:ag):aS ρ=.nx ρ:=rfl
theorem OL{c:ag->OT}{a b:ag->OS}{ρ:ag}(h:c ρ=.ok true):bf c a b ρ=a ρ:=by unfold bf;rw[h];rfl
theorem Nb{c:ag->OT}{a b:ag->OS}{ρ:ag}(h:c ρ=.ok false):bf c a b ρ=b ρ:=by unfold bf;rw[h];rfl
theorem qS{f:List PV->OE}{x y:PV}{r:RV}(h:f [x,y]=.ok r)(hr:∀ xs,r≠.al xs):bc (bp f (ak (ao 0) (ak (ao 1) aJ))) [some (.sh x),some (.sh y)]=.rt [some (.sh x),some (.sh y)] r:=by
 cases r with
 |al xs=>exact absurd rfl (hr xs)
 |sh z=>simp[h]
 |fr z=>simp[h]
theorem Ej{f:List PV->OE}{x y:PV}{r:RV}(h:f [y]=.ok r)(hr:∀ xs,r≠.al xs):bc (bp f (ak (ao 1) aJ)) [some (.sh x),some (.sh y)]=.rt [some (.sh x),some (.sh y)] r:=by
 cases r with
 |al xs=>exact absurd rfl (hr xs)
 |sh z=>simp[h]
 |fr z=>simp[h]
theorem Ls{ρ:ag}{r:RV}(hr:∀ xs,r≠.al xs):fin (.rt ρ r)=.ok r:=by
 cases r with
 |al xs=>exact absurd rfl (hr xs)
 |sh z=>rfl
 |fr z=>rfl
theorem sk{c:ag->OT}{a n:ag->OS}{ρ:ag}(h:c ρ=.ok false):aG (bf c a aS) n ρ=n ρ:=bt (Eq.trans (Nb h) (CA _))
theorem st{c:ag->OT}{a b n:ag->OS}{ρ ρ':ag}{r:RV}(h:c ρ=.ok true)(k:a ρ=.rt ρ' r):aG (bf c a b) n ρ=.rt ρ' r:=Ld (Eq.trans (OL h) k)
theorem xa{X:OS}{ρ:ag}{x:PV}(h:X=.rt ρ (.sh x)):fin X=.ok (.sh x):=by rw[h];rfl
end L2.P
namespace L2.E
open PySem PySem.Spec PyProof.Rows L2
end L2.E
namespace L2.P
open PySem PySem.Spec PyProof.Rows L2 L2.E
end L2.P
namespace L2.E
open PySem PySem.Spec PyProof.Rows L2
end L2.E
namespace L2.P
open PySem PySem.Spec PyProof.Rows L2 L2.E
end L2.P
namespace PG
noncomputable def nu(n:Int):Bool:=(decide (0<=n)&&decide (n<55296))||(decide (57343<n)&&decide (n<=1114111))
noncomputable def ba(n:Int):List Int:=if n<128 then[n]else if n<2048 then[192+n/64,128+n%64]else if n<65536 then[224+n/4096,128+n/64%64,128+n%64]else[240+n/262144,128+n/4096%64,128+n/64%64,128+n%64]
noncomputable def cell(ns:List Int)(k:Int):Int:=if ns=[]then 0 else ns.getD (k%(ns.length:Int)).toNat 0
noncomputable def mix(ns:List Int)(k:Int):Int:=
 let a:=(cell ns k+104729*(k+1))%4294967291
 let b:=a*48271%4294967279
 (b/64*69621+b)%4294967231
noncomputable def menu:List Int:=[34,92,47,8,12,10,13,9,0,31,127]
noncomputable def point(n:Int):Int:=
 if n%8<2 then 32+n/8%95 else if n%8<4 then menu.getD (n/8%11).toNat 0 else if n%8=4 then 128+n/8%1920
 else if n%8=5 then 2048+n/8%53248 else if n%8=6 then 57344+n/8%8192 else 65536+n/8%1048576
noncomputable def wz(ns:List Int)(k:Int):Int:=if mix ns k/5%8=3 then mix ns k/40%14 else mix ns k%5
noncomputable def points(ns:List Int)(k:Int):List Int:=(List.range (wz ns k).toNat).map fun j:Nat=>point (mix ns (k+1+(j:Int)))
theorem BA(ns:List Int)(k:Int):0<=mix ns k /\ mix ns k<4294967231:=by unfold mix;dsimp only;omega
theorem Ap(ns:List Int)(k:Int):0<=wz ns k /\ wz ns k<14:=by
 have:=BA ns k
 unfold wz;split<;>omega
theorem HM(i:Nat)(h:i<11):0<=menu.getD i 0 /\ menu.getD i 0<128:=by
 revert h;revert i;decide
theorem E4(n:Int):nu (point n)=true:=by
 unfold point nu;have h11:=HM (n/8%11).toNat (by omega);simp only[Bool.or_eq_true,Bool.and_eq_true,decide_eq_true_eq];split
 . omega
 . split
   . omega
   . split
     . omega
     . split
       . omega
       . split<;>omega
theorem qY(ns:List Int)(k:Int):(points ns k).all nu=true:=by
 rw[List.all_eq_true];intro x hx;unfold points at hx;obtain⟨j,_,rfl⟩:=List.mem_map.mp hx;exact E4 _
theorem sF(ns:List Int)(k:Int):(points ns k).length<14:=by
 have:=Ap ns k;unfold points;rw[List.length_map,List.length_range];omega
end PG
namespace PG
noncomputable def Om(b:Int):Int×Int:=if b=224 then(160,191)else if b=237 then(128,159)else(128,191)
noncomputable def OC(b:Int):Int×Int:=if b=240 then(144,191)else if b=244 then(128,143)else(128,191)
noncomputable def spans(b:Int):Option (List (Int×Int)):=if 0<=b /\ b<128 then some []else if 194<=b /\ b<224 then some [(128,191)]else if 224<=b /\ b<240 then some [Om b,(128,191)]else if 240<=b /\ b<245 then some [OC b,(128,191),(128,191)]else none
noncomputable def mark(k:Nat):Int:=[0,192,224,240].getD k 0
noncomputable def val(b:Int)(cs:List Int):Int:=cs.foldl (fun n c=>n*64+c - 128) (b - mark cs.length)
theorem pe{n:Int}(h:nu n=true):0<=n /\ n<=1114111:=by
 unfold nu at h;simp only[Bool.or_eq_true,Bool.and_eq_true,decide_eq_true_eq]at h;omega
end PG
namespace L2.P
open PySem
@[simp] theorem JF(s:String):(Str.ofString s).cps.all (·<0x110000)=true:=by
  rw[Str.ofString_eq_toList,List.all_toArray,List.all_map];rw[List.all_eq_true];intro c _;have:=c.valid;simp only[Function.comp,decide_eq_true_eq]
  rcases this with h|⟨_,h⟩
  . exact Nat.lt_of_lt_of_le h (by decide)
  . exact h
theorem toNat_inj:∀(xs ys:List Char),xs.map Char.toNat=ys.map Char.toNat->xs=ys
 |[],[],_=>rfl
 |[],_ ::_,h=>by cases h
 |_ ::_,[],h=>by cases h
 | x ::xs,y ::ys,h=>by
   rw[List.map_cons,List.map_cons]at h
   injection h with h1 h2
   have:x=y:=Char.ext (UInt32.toNat_inj.mp h1)
   rw[this,toNat_inj xs ys h2]
theorem aH(a b:String):Str.ofString a=Str.ofString b↔a=b:=by
 constructor
 . intro h;rw[Str.ofString_eq_toList,Str.ofString_eq_toList]at h
   injection h with h
   have h2:a.toList.map Char.toNat=b.toList.map Char.toNat:=by
    have:=congrArg Array.toList h
    simpa using this
   exact String.toList_inj.mp (toNat_inj _ _ h2)
 . intro h;rw[h]
@[simp] theorem I0(a b:String):(Str.ofString a==Str.ofString b)=decide (a=b):=by
  by_cases h:a=b
  . subst h;simp
  . have:Str.ofString a≠Str.ofString b:=fun z=>h ((aH a b).mp z)
    simp[h,this]
@[simp] theorem NJ(a b:String):fg (.str (Str.ofString a)) (.str (Str.ofString b))=decide (a=b):=by simp[fg]
@[simp] theorem Ox(a:String)(n:Nat):qf (.str (Str.ofString a)) n=true:=by simp[qf]
theorem Ln(n:Nat):ixP (n+1) (-1)=some n:=by
 unfold ixP;rw[if_neg (by decide),if_pos (by omega)]
 congr 1
 omega
@[simp] theorem get_nil(t:OV):t.get []=some t:=by cases t<;>rfl
@[simp] theorem lG(t u:OV):t.put [] u=u:=by cases t<;>rfl
theorem AQ{ρ:ag}{i:Nat}{io:Bool}{ts:List OV}{md:ag->OD}{x:OV}(h:ρ[i]?=some (some (.tr io (.ol ts))))(hd:md ρ=.ok x)(hl:ts.length<lim):
  bR i aI md ρ=.nx (ρ.set i (some (.tr io (.ol (ts++[x]))))):=by
 unfold bR vd aI;rw[h];simp only[get_nil];rw[hd];simp only[hl,if_true,lG]
section
variable{ρ:ag}{i:Nat}{io:Bool}{init us:List OV}{x:PV}
theorem IJ(n k:Nat)(h:k<n):ixP n (k:Int)=some k:=by
 unfold ixP;rw[if_pos (by omega),if_pos (by omega)];simp
end
theorem Fo{ρ:ag}{i:Nat}{io:Bool}{ts:List OV}{x:OV}(h:ρ[i]?=some (some (.tr io (.ol (ts++[x]))))):mR i aI ρ=.ok (ρ.set i (some (.tr io (.ol ts)))) (slO x):=by
 unfold mR aI;rw[h];simp
end L2.P
namespace PG
open L2.P PySem
inductive It where
 |sp (lo hi:Int)|br|value|lead|figures|fraction|exponent|sign|text|escape|code|coded|hex|hexd|hexcf|row|mrow|fields|mfields|name
 deriving DecidableEq
noncomputable def bB:It->PV
 |.sp lo hi=>.tup [.int lo,.int hi]
 |.br=>.str "white" | .value=>.str "value" | .lead=>.str "lead" | .figures=>.str "figures" | .fraction=>.str "fraction" | .exponent=>.str "exponent" | .sign=>.str "sign"
 |.text=>.str "text" | .escape=>.str "escape" | .code=>.str "code" | .coded=>.str "code d" | .hex=>.str "hex" | .hexd=>.str "hex d" | .hexcf=>.str "hex c to f"
 |.row=>.str "row" | .mrow=>.str "more row" | .fields=>.str "fields" | .mfields=>.str "more fields" | .name=>.str "name"
noncomputable def loose:It->Bool
 |.br=>true|.figures=>true|.fraction=>true|.exponent=>true|.sign=>true
 |_=>false
noncomputable def opn:It->Bool
 |.row=>true|.mrow=>true|.fields=>true|.mfields=>true
 |_=>false
noncomputable def wht(b:Int):Bool:=decide (9=b)||(decide (10=b)||(decide (13=b)||decide (32=b)))
noncomputable def fig(b:Int):Bool:=decide (48<=b)&&decide (b<=57)
noncomputable def eV(b:Int):Option Int:=if 48<=b /\ b<=57 then some (b - 48)else if 65<=b /\ b<=70 then some (b - 55)else if 97<=b /\ b<=102 then some (b - 87)else none
noncomputable def nz(b:Int):Option (List It):=if b=48 then some [.fraction,.exponent]else if 48<=b /\ b<=57 then some [.figures,.fraction,.exponent]else none
noncomputable def lA(b:Int):Option (List It):=
 if b=91 then some [.br,.row]else if b=123 then some [.br,.fields]else if b=34 then some [.text]else if b=45 then some [.lead]
 else if b=110 then some [.sp 117 117,.sp 108 108,.sp 108 108]else if b=116 then some [.sp 114 114,.sp 117 117,.sp 101 101]else if b=102 then some [.sp 97 97,.sp 108 108,.sp 115 115,.sp 101 101]
 else nz b
noncomputable def tL:List It:=[.br,.sp 58 58,.br,.value,.br,.mfields]
noncomputable def tls(b:Int):Option (List It):=
 if 0<=b /\ b<128 then some []else if 194<=b /\ b<224 then some [.sp 128 191]
 else if 224<=b /\ b<240 then some [if b=224 then .sp 160 191 else if b=237 then .sp 128 159 else .sp 128 191,.sp 128 191]
 else if 240<=b /\ b<245 then some [if b=240 then .sp 144 191 else if b=244 then .sp 128 143 else .sp 128 191,.sp 128 191,.sp 128 191]
 else none
noncomputable def uJ(b:Int):Option (List It):=if b=34 then some []else if b=92 then some [.escape,.text]else if b<32 then none else(tls b).map (·++[.text])
noncomputable def yx(b:Int):Bool:=b=34||b=92||b=47||b=98||b=102||b=110||b=114||b=116
noncomputable def EG(b:Int):Option (List It):=if b=117 then some [.code]else if yx b then some []else none
noncomputable def B7(w:Int):Option (List It):=if w<8 then some [.hex,.hex]else if w<12 then some [.hex,.hex,.sp 92 92,.sp 117 117,.hexd,.hexcf,.hex,.hex]else none
noncomputable def bh:It->Int->Option (List It)
 |.sp lo hi,b=>if lo<=b /\ b<=hi then some []else none
 |.br,b=>if wht b then some [.br]else none
 |.value,b=>lA b
 |.lead,b=>nz b
 |.figures,b=>if 48<=b /\ b<=57 then some [.figures]else none
 |.fraction,b=>if b=46 then some [.sp 48 57,.figures]else none
 |.exponent,b=>if b=101 \/ b=69 then some [.sign,.sp 48 57,.figures]else none
 |.sign,b=>if b=43 \/ b=45 then some []else none
 |.text,b=>uJ b
 |.escape,b=>EG b
 |.code,b=>(eV b).bind fun w=>if w=13 then some [.coded]else some [.hex,.hex,.hex]
 |.coded,b=>(eV b).bind B7
 |.hex,b=>(eV b).map fun _=>[]
 |.hexd,b=>(eV b).bind fun w=>if w=13 then some []else none
 |.hexcf,b=>(eV b).bind fun w=>if 12<=w then some []else none
 |.row,b=>if b=93 then some []else(lA b).map (·++[.br,.mrow])
 |.mrow,b=>if b=44 then some [.br,.value,.br,.mrow]else if b=93 then some []else none
 |.fields,b=>if b=125 then some []else if b=34 then some (.text ::tL)else none
 |.mfields,b=>if b=44 then some (.br ::.name ::tL)else if b=125 then some []else none
 |.name,b=>if b=34 then some [.text]else none
noncomputable def cnt(st:List It):Nat:=(st.filter opn).length
noncomputable def gon:List It->Int->List It×Bool
 |[],_=>([],false)
 | it ::st,b=>match bh it b with
   |some l=>(l++st,decide (cnt (l++st)<=64))
   |none=>if loose it then gon st b else(st,false)
noncomputable def tk:List It->List Int->List It×Nat
 |st,[]=>(st,0)
 |st,b ::r=>if(gon st b).2 then((tk (gon st b).1 r).1,(tk (gon st b).1 r).2+1)else((gon st b).1,0)
noncomputable def st0:List It:=[.br,.value,.br]
noncomputable def flt(row:List Int):Option Nat:=if(tk st0 row).2=row.length /\ (tk st0 row).1.all loose=true then none else some (tk st0 row).2
noncomputable def wk(st:List It):OV:=.ob "Walk" ["coming"] [.ol ((st.reverse.map bB).map .sh)]
theorem FX(it:It)(b:Int)(l:List It)(h:bh it b=some l):l.length<=8:=by
 have hv:∀ l,lA b=some l->l.length<=5:=by
  intro l h;unfold lA nz at h
  repeat' split at h
  all_goals(first|(cases h;done)|(injection h with h;subst h;decide))
 have ht:∀ l,tls b=some l->l.length<=5:=by
  intro l h;unfold tls at h
  repeat' split at h
  all_goals(first|(cases h;done)|(injection h with h;subst h;simp))
 cases it with
 |value=>exact Nat.le_trans (hv l h) (by decide)
 | row=>
   simp only[bh]at h;split at h
   . injection h with h;subst h;decide
   . cases e:lA b with
     |none=>rw[e]at h;cases h
     |some l'=>rw[e]at h;injection h with h;subst h;have:=hv l' e;simp;omega
 | text=>
   simp only[bh,uJ]at h
   repeat' split at h
   all_goals first|(cases h;done)|(injection h with h;subst h;decide)|skip
   cases e:tls b with
   |none=>rw[e]at h;cases h
   |some l'=>rw[e]at h;injection h with h;subst h;have:=ht l' e;simp;omega
 | code=>
   simp only[bh]at h
   cases e:eV b with
   |none=>rw[e]at h;cases h
   |some w=>rw[e]at h;simp only[Option.bind_some]at h;split at h<;>(injection h with h;subst h;decide)
 | coded=>
   simp only[bh]at h
   cases e:eV b with
   |none=>rw[e]at h;cases h
   | some w=>
     rw[e]at h;simp only[Option.bind_some,B7]at h
     repeat' split at h
     all_goals first|(cases h;done)|(injection h with h;subst h;decide)
 | hex=>
   simp only[bh]at h
   cases e:eV b with
   |none=>rw[e]at h;cases h
   |some w=>rw[e]at h;injection h with h;subst h;simp
 | hexd=>
   simp only[bh]at h
   cases e:eV b with
   |none=>rw[e]at h;cases h
   |some w=>rw[e]at h;simp only[Option.bind_some]at h;split at h<;>first|(cases h;done)|(injection h with h;subst h;decide)
 | hexcf=>
   simp only[bh]at h
   cases e:eV b with
   |none=>rw[e]at h;cases h
   |some w=>rw[e]at h;simp only[Option.bind_some]at h;split at h<;>first|(cases h;done)|(injection h with h;subst h;decide)
 | _=>
   simp only[bh,nz,EG,tL]at h
   repeat' split at h
   all_goals first|(cases h;done)|(injection h with h;subst h;decide)
theorem Dd(st:List It)(b:Int):(gon st b).1.length<=st.length+8:=by
 induction st with
 |nil=>simp[gon]
 | cons it st ih=>
   unfold gon
   cases e:bh it b with
   |some l=>have:=FX it b l e;simp;omega
   | none=>
     dsimp only;split
     . simp;omega
     . simp;omega
end PG
namespace PG
inductive Sg where
 |pl (p:Int)|sh (c p:Int)|hx (a b c d:Int)|pr (a b c d e f g h:Int)
noncomputable def pts:Sg->List Int
 |.pl p=>[p]
 |.sh c _=>[92,c]
 |.hx a b c d=>[92,117,a,b,c,d]
 |.pr a b c d e f g h=>[92,117,a,b,c,d,92,117,e,f,g,h]
noncomputable def hv(b:Int):Int:=(eV b).getD 0
noncomputable def cod(a b c d:Int):Int:=16*(16*(16*hv a+hv b)+hv c)+hv d
noncomputable def Nh:Sg->Int
 |.pl p=>p
 |.sh _ p=>p
 |.hx a b c d=>cod a b c d
 |.pr a b c d e f g h=>65536+1024*(cod a b c d - 55296)+cod e f g h - 56320
noncomputable def shP:List (Int×Int):=[(34,34),(92,92),(47,47),(98,8),(102,12),(110,10),(114,13),(116,9)]
noncomputable def Sok:Sg->Prop
 |.pl p=>nu p=true /\ 32<=p /\ p≠34 /\ p≠92
 |.sh c p=>(c,p)∈shP
 |.hx a b c d=>(eV a).isSome=true /\ (eV b).isSome=true /\ (eV c).isSome=true /\ (eV d).isSome=true /\ ¬ (55296<=cod a b c d /\ cod a b c d<=57343)
 |.pr a b c d e f g h=>(eV a=some 13 /\ 8<=hv b /\ hv b<12 /\ (eV b).isSome=true /\ (eV c).isSome=true /\ (eV d).isSome=true) /\ eV e=some 13 /\ 12<=hv f /\ (eV f).isSome=true /\ (eV g).isSome=true /\ (eV h).isSome=true
noncomputable def nv(s:Sg):List Int:=(pts s).flatMap ba
theorem kF{b w:Int}(h:eV b=some w):0<=w /\ w<16 /\ 48<=b /\ b<=102 /\ b≠92 /\ b≠117:=by
 unfold eV at h;split at h
 . injection h with h;omega
 . split at h
   . injection h with h;omega
   . split at h
     . injection h with h;omega
     . cases h
theorem nQ{b w:Int}(h:eV b=some w):hv b=w:=by unfold hv;rw[h];rfl
theorem mP{n:Int}(h:n<128):ba n=[n]:=by unfold ba;rw[if_pos h]
theorem cnt_cons(it:It)(st:List It):cnt (it ::st)=(if opn it then 1 else 0)+cnt st:=by
 unfold cnt
 cases e:opn it<;>simp[e]
 omega
theorem Hx(l st:List It):cnt (l++st)=cnt l+cnt st:=by
 unfold cnt;rw[List.filter_append,List.length_append]
theorem Ng{st st':List It}{b:Int}{r:List Int}(h:gon st b=(st',true)):tk st (b ::r)=((tk st' r).1,(tk st' r).2+1):=by
 simp[tk,h]
theorem Io{it:It}{st l:List It}{b:Int}{r:List Int}(h:bh it b=some l)(hl:cnt l=0)(hc:cnt st<=64):tk (it ::st) (b ::r)=((tk (l++st) r).1,(tk (l++st) r).2+1):=by
 refine Ng ?_
 have:cnt (l++st)<=64:=by rw[Hx];omega
 simp[gon,h,this]
theorem HL{it:It}{st:List It}{b:Int}{r:List Int}(h:bh it b=none)(hl:loose it=true):tk (it ::st) (b ::r)=tk st (b ::r):=by
 simp[tk,gon,h,hl]
noncomputable def Goes(st:List It)(bs:List Int)(st':List It):Prop:=∀ r,tk st (bs++r)=((tk st' r).1,(tk st' r).2+bs.length)
theorem Goes.nil(st:List It):Goes st [] st:=fun r=>by simp
theorem Goes.trans{a b c:List It}{xs ys:List Int}(h:Goes a xs b)(k:Goes b ys c):Goes a (xs++ys) c:=fun r=>by
 rw[List.append_assoc,h,k,List.length_append]
 congr 1
 omega
theorem Goes.step{it:It}{st l st':List It}{b:Int}{bs:List Int}(h:bh it b=some l)(hl:cnt l=0)(hc:cnt st<=64)(k:Goes (l++st) bs st'):Goes (it ::st) (b ::bs) st':=fun r=>by
 rw[List.cons_append,Io h hl hc,k,List.length_cons]
 congr 1
theorem G3{p:Int}{st:List It}(h:nu p=true)(h1:32<=p)(h2:p≠34)(h3:p≠92)(hc:cnt st<=64):Goes (.text ::st) (ba p) (.text ::st):=by
 have hr:=pe h
 have hs:p<55296 \/ 57343<p:=by
  unfold nu at h;simp only[Bool.or_eq_true,Bool.and_eq_true,decide_eq_true_eq]at h;omega
 have hc1:cnt (.text ::st)<=64:=by rw[cnt_cons];simp[opn];omega
 have hsp:∀ lo hi:Int,cnt (.sp lo hi ::.text ::st)<=64:=fun lo hi=>by rw[cnt_cons,cnt_cons];simp[opn];omega
 have b1:∀ b:Int,b≠34->b≠92->¬ b<32->bh .text b=(tls b).map (·++[.text]):=fun b g1 g2 g3=>by simp only[bh,uJ,g1,g2,g3,if_false]
 unfold ba
 by_cases c1:p<128
 . rw[if_pos c1];refine Goes.step (l:=[.text]) ?_ rfl hc (.nil _);rw[b1 p h2 h3 (by omega)];unfold tls;rw[if_pos ⟨by omega,c1⟩];rfl
 . rw[if_neg c1]
   by_cases c2:p<2048
   . rw[if_pos c2];refine Goes.step (l:=[.sp 128 191,.text]) ?_ rfl hc ?_
     . rw[b1 _ (by omega) (by omega) (by omega)];unfold tls;rw[if_neg (by omega),if_pos (by omega)];rfl
     . refine Goes.step (l:=[]) ?_ rfl hc1 (.nil _);simp only[bh];rw[if_pos (by omega)]
   . rw[if_neg c2]
     by_cases c3:p<65536
     . rw[if_pos c3];refine Goes.step (l:=[if 224+p/4096=224 then .sp 160 191 else if 224+p/4096=237 then .sp 128 159 else .sp 128 191,.sp 128 191,.text]) ?_ ?_ hc ?_
       . rw[b1 _ (by omega) (by omega) (by omega)];unfold tls;rw[if_neg (by omega),if_neg (by omega),if_pos (by omega)];rfl
       . split
         . rfl
         . split<;>rfl
       . refine Goes.step (l:=[]) ?_ rfl (hsp _ _) ?_
         . split
           . simp only[bh];rw[if_pos (by omega)]
           . split
             . simp only[bh];rw[if_pos (by omega)]
             . simp only[bh];rw[if_pos (by omega)]
         . refine Goes.step (l:=[]) ?_ rfl hc1 (.nil _);simp only[bh];rw[if_pos (by omega)]
     . rw[if_neg c3]
       have hsp2:cnt (.sp 128 191 ::.sp 128 191 ::.text ::st)<=64:=by rw[cnt_cons,cnt_cons,cnt_cons];simp[opn];omega
       refine Goes.step (l:=[if 240+p/262144=240 then .sp 144 191 else if 240+p/262144=244 then .sp 128 143 else .sp 128 191,.sp 128 191,.sp 128 191,.text]) ?_ ?_ hc ?_
       . rw[b1 _ (by omega) (by omega) (by omega)];unfold tls;rw[if_neg (by omega),if_neg (by omega),if_neg (by omega),if_pos (by omega)];rfl
       . split
         . rfl
         . split<;>rfl
       . refine Goes.step (l:=[]) ?_ rfl hsp2 ?_
         . split
           . simp only[bh];rw[if_pos (by omega)]
           . split
             . simp only[bh];rw[if_pos (by omega)]
             . simp only[bh];rw[if_pos (by omega)]
         . refine Goes.step (l:=[]) ?_ rfl (hsp _ _) ?_
           . simp only[bh];rw[if_pos (by omega)]
           . refine Goes.step (l:=[]) ?_ rfl hc1 (.nil _);simp only[bh];rw[if_pos (by omega)]
theorem oy{b w:Int}(h:eV b=some w):bh .hex b=some []:=by simp[bh,h]
theorem some_of{b:Int}(h:(eV b).isSome=true):∃ w,eV b=some w:=Option.isSome_iff_exists.mp h
theorem kl{a b c d:Int}(ha:(eV a).isSome=true)(hb:(eV b).isSome=true)(hc:(eV c).isSome=true)(hd:(eV d).isSome=true):ba a=[a] /\ ba b=[b] /\ ba c=[c] /\ ba d=[d]:=by
 obtain⟨w1,e1⟩:=some_of ha;obtain⟨w2,e2⟩:=some_of hb;obtain⟨w3,e3⟩:=some_of hc;obtain⟨w4,e4⟩:=some_of hd;have:=kF e1;have:=kF e2;have:=kF e3;have:=kF e4
 exact⟨mP (by omega),mP (by omega),mP (by omega),mP (by omega)⟩
theorem Ig(s:Sg)(h:Sok s)(st:List It)(hc:cnt st<=64):Goes (.text ::st) (nv s) (.text ::st):=by
 have hc1:cnt (.text ::st)<=64:=by rw[cnt_cons];simp[opn];omega
 have n0:∀ it:It,opn it=false->∀ st,cnt st<=64->cnt (it ::st)<=64:=fun it ho st h=>by rw[cnt_cons,ho];simp;omega
 cases s with
 | pl p=>
   obtain⟨h1,h2,h3,h4⟩:=h;show Goes _ (ba p++[]) _;rw[List.append_nil];exact G3 h1 h2 h3 h4 hc
 | sh c p=>
   have hb:nv (.sh c p)=[92,c] /\ bh .escape c=some []:=by
    simp only[Sok,shP,List.mem_cons,Prod.mk.injEq,List.not_mem_nil,or_false]at h
    rcases h with h|h|h|h|h|h|h|h<;>(obtain⟨rfl,rfl⟩:=h;exact⟨rfl,rfl⟩)
   rw[hb.1];exact Goes.step (l:=[.escape,.text]) rfl rfl hc (Goes.step (l:=[]) hb.2 rfl hc1 (.nil _))
 | hx a b c d=>
   obtain⟨ha,hb,hcc,hd,hs⟩:=h;obtain⟨e1,e2,e3,e4⟩:=kl ha hb hcc hd
   have hby:nv (.hx a b c d)=[92,117,a,b,c,d]:=by
    show ba 92++(ba 117++(ba a++(ba b++(ba c++(ba d++[])))))=_;rw[e1,e2,e3,e4];rfl
   rw[hby];obtain⟨w1,f1⟩:=some_of ha;obtain⟨w2,f2⟩:=some_of hb;obtain⟨w3,f3⟩:=some_of hcc;obtain⟨w4,f4⟩:=some_of hd;refine Goes.step (l:=[.escape,.text]) rfl rfl hc (Goes.step (l:=[.code]) rfl rfl hc1 ?_)
   by_cases hw:w1=13
   . have h8:w2 < 8:=by
      have g2:=kF f2;have g3:=kF f3;have g4:=kF f4;simp only[cod,nQ f1,nQ f2,nQ f3,nQ f4]at hs;omega
     refine Goes.step (l:=[.coded]) (by simp[bh,f1,hw]) rfl hc1 (Goes.step (l:=[.hex,.hex]) (by simp[bh,f2,B7,h8]) rfl hc1 ?_);exact Goes.step (l:=[]) (oy f3) rfl (n0 _ rfl _ hc1) (Goes.step (l:=[]) (oy f4) rfl hc1 (.nil _))
   . refine Goes.step (l:=[.hex,.hex,.hex]) (by simp[bh,f1,hw]) rfl hc1 ?_;exact Goes.step (l:=[]) (oy f2) rfl (n0 _ rfl _ (n0 _ rfl _ hc1)) (Goes.step (l:=[]) (oy f3) rfl (n0 _ rfl _ hc1) (Goes.step (l:=[]) (oy f4) rfl hc1 (.nil _)))
 | pr a b c d e f g h'=>
   obtain⟨⟨f1,hb8,hb12,hb,hcc,hd⟩,f5,hf12,hf,hg,hh⟩:=h;obtain⟨e1,e2,e3,e4⟩:=kl (by rw[f1];rfl) hb hcc hd;obtain⟨e5,e6,e7,e8⟩:=kl (by rw[f5];rfl) hf hg hh
   have hby:nv (.pr a b c d e f g h')=[92,117,a,b,c,d,92,117,e,f,g,h']:=by
    show ba 92++(ba 117++(ba a++(ba b++(ba c++(ba d++(ba 92++(ba 117++(ba e++(ba f++(ba g++(ba h'++[])))))))))))=_;rw[e1,e2,e3,e4,e5,e6,e7,e8];rfl
   rw[hby];obtain⟨w2,f2⟩:=some_of hb;obtain⟨w3,f3⟩:=some_of hcc;obtain⟨w4,f4⟩:=some_of hd;obtain⟨w6,f6⟩:=some_of hf;obtain⟨w7,f7⟩:=some_of hg;obtain⟨w8,f8⟩:=some_of hh;rw[nQ f2]at hb8 hb12;rw[nQ f6]at hf12
   have hn8:¬ w2<8:=by omega
   refine Goes.step (l:=[.escape,.text]) rfl rfl hc (Goes.step (l:=[.code]) rfl rfl hc1 (Goes.step (l:=[.coded]) (by simp[bh,f1]) rfl hc1 (Goes.step (l:=[.hex,.hex,.sp 92 92,.sp 117 117,.hexd,.hexcf,.hex,.hex]) (by simp[bh,f2,B7,hn8,hb12]) rfl hc1 ?_)));have k1:=n0 .hex rfl _ hc1;have k2:=n0 .hex rfl _ k1;have k3:=n0 .hexcf rfl _ k2;have k4:=n0 .hexd rfl _ k3;have k5:=n0 (.sp 117 117) rfl _ k4;have k6:=n0 (.sp 92 92) rfl _ k5;have k7:=n0 .hex rfl _ k6;exact Goes.step (l:=[]) (oy f3) rfl k7 (Goes.step (l:=[]) (oy f4) rfl k6 (Goes.step (l:=[]) rfl rfl k5 (Goes.step (l:=[]) rfl rfl k4 (Goes.step (l:=[]) (by simp[bh,f5]) rfl k3 (Goes.step (l:=[]) (by simp[bh,f6,hf12]) rfl k2 (Goes.step (l:=[]) (oy f7) rfl k1 (Goes.step (l:=[]) (oy f8) rfl hc1 (.nil _))))))))
noncomputable def inner(ss:List Sg):List Int:=ss.flatMap nv
theorem E0(ss:List Sg)(h:∀ s∈ss,Sok s)(st:List It)(hc:cnt st<=64):Goes (.text ::st) (inner ss) (.text ::st):=by
 induction ss with
 |nil=>exact .nil _
 |cons s ss ih=>exact(Ig s (h s List.mem_cons_self) st hc).trans (ih fun x hx=>h x (List.mem_cons_of_mem _ hx))
theorem uB(ss:List Sg)(h:∀ s∈ss,Sok s)(st:List It)(hc:cnt st<=64):Goes (.text ::st) (inner ss++[34]) st:=
 (E0 ss h st hc).trans (Goes.step (l:=[]) rfl rfl hc (.nil _))
inductive Skp:List Int->Prop
 |nil:Skp []
 |one {b:Int} {r:List Int}:b≠34->b≠92->Skp r->Skp (b ::r)
 |two {c:Int} {r:List Int}:Skp r->Skp (92 ::c ::r)
theorem Skp.app{xs ys:List Int}(h:Skp xs)(k:Skp ys):Skp (xs++ys):=by
 induction h with
 |nil=>exact k
 |one h1 h2 _ ih=>exact .one h1 h2 ih
 |two _ ih=>exact .two ih
theorem HC{l:List Int}(h:∀ b∈l,b≠34 /\ b≠92):Skp l:=by
 induction l with
 |nil=>exact .nil
 |cons b l ih=>exact .one (h b List.mem_cons_self).1 (h b List.mem_cons_self).2 (ih fun x hx=>h x (List.mem_cons_of_mem _ hx))
theorem iZ{b:Int}{r:List Int}(h:(eV b).isSome=true)(k:Skp r):Skp (b ::r):=by
 obtain⟨w,e⟩:=some_of h;have:=kF e;exact .one (by omega) (by omega) k
theorem LR(s:Sg)(h:Sok s):Skp (nv s):=by
 cases s with
 | pl p=>
   obtain⟨h1,h2,h3,h4⟩:=h;have hr:=pe h1;show Skp (ba p++[]);rw[List.append_nil]
   refine HC fun b hb=>?_
   unfold ba at hb;split at hb
   . simp at hb;omega
   . split at hb
     . simp at hb;omega
     . split at hb<;>(simp at hb;omega)
 | sh c p=>
   simp only[Sok,shP,List.mem_cons,Prod.mk.injEq,List.not_mem_nil,or_false]at h
   rcases h with h|h|h|h|h|h|h|h<;>(obtain⟨rfl,rfl⟩:=h;exact .two .nil)
 | hx a b c d=>
   obtain⟨ha,hb,hcc,hd,hs⟩:=h;obtain⟨e1,e2,e3,e4⟩:=kl ha hb hcc hd
   have hby:nv (.hx a b c d)=[92,117,a,b,c,d]:=by
    show ba 92++(ba 117++(ba a++(ba b++(ba c++(ba d++[])))))=_;rw[e1,e2,e3,e4];rfl
   rw[hby];exact .two (iZ ha (iZ hb (iZ hcc (iZ hd .nil))))
 | pr a b c d e f g h'=>
   obtain⟨⟨f1,_,_,hb,hcc,hd⟩,f5,_,hf,hg,hh⟩:=h
   have ha:(eV a).isSome=true:=by rw[f1];rfl
   have he:(eV e).isSome=true:=by rw[f5];rfl
   obtain⟨e1,e2,e3,e4⟩:=kl ha hb hcc hd;obtain⟨e5,e6,e7,e8⟩:=kl he hf hg hh
   have hby:nv (.pr a b c d e f g h')=[92,117,a,b,c,d,92,117,e,f,g,h']:=by
    show ba 92++(ba 117++(ba a++(ba b++(ba c++(ba d++(ba 92++(ba 117++(ba e++(ba f++(ba g++(ba h'++[])))))))))))=_;rw[e1,e2,e3,e4,e5,e6,e7,e8];rfl
   rw[hby];exact .two (iZ ha (iZ hb (iZ hcc (iZ hd (.two (iZ he (iZ hf (iZ hg (iZ hh .nil)))))))))
theorem D8(ss:List Sg)(h:∀ s∈ss,Sok s):Skp (inner ss):=by
 induction ss with
 |nil=>exact .nil
 |cons s ss ih=>exact(LR s (h s List.mem_cons_self)).app (ih fun x hx=>h x (List.mem_cons_of_mem _ hx))
theorem Goes.skip{it:It}{st st':List It}{b:Int}{bs:List Int}(h:bh it b=none)(hl:loose it=true)(k:Goes st (b ::bs) st'):Goes (it ::st) (b ::bs) st':=fun r=>by
 rw[List.cons_append,HL h hl,<- List.cons_append,k]
theorem Goes.flt{row:List Int}{st:List It}(h:Goes st0 row st)(hl:st.all loose=true):flt row=none:=by
 have e:=h [];rw[List.append_nil]at e;unfold PG.flt;rw[e];simp[tk,hl]
noncomputable def txt(ss:List Sg):List Int:=34 ::(inner ss++[34])
theorem BV{st:List It}(ss:List Sg)(h:∀ s∈ss,Sok s)(hc:cnt st<=64):Goes (.value ::st) (txt ss) st:=
 Goes.step (l:=[.text]) rfl rfl hc (uB ss h st hc)
end PG
namespace PG
noncomputable abbrev isF(b:Int):Prop:=48<=b /\ b<=57
noncomputable def cX(n:Nat):List Int:=if n<10 then[48+(n:Int)]else cX (n/10)++[48+((n%10:Nat):Int)]
termination_by n
decreasing_by omega
noncomputable def dz(n:Nat):List Int:=if n=0 then[]else cX n
theorem Kq(n:Nat):cX n=dz (n/10)++[48+((n%10:Nat):Int)]:=by
 rw[cX];unfold dz
 by_cases h:n<10
 . rw[if_pos h,if_pos (by omega),Nat.mod_eq_of_lt h];rfl
 . rw[if_neg h,if_neg (by omega)]
theorem AA(n:Nat):∀ b∈cX n,isF b:=by
 induction n using Nat.strongRecOn with
 | _ n ih=>
   intro b hb;rw[cX]at hb;split at hb
   . simp at hb;unfold isF;omega
   . rcases List.mem_append.mp hb with z|z
     . exact ih (n/10) (by omega) b z
     . simp at z;unfold isF;omega
theorem GO(n:Nat):cX n≠[]:=by rw[Kq];simp
theorem Em(n:Nat)(h:0<n):∃ d r,cX n=d ::r /\ 49<=d /\ d<=57 /\ ∀ b∈r,isF b:=by
 induction n using Nat.strongRecOn with
 | _ n ih=>
   rw[cX];split
   . exact⟨48+(n:Int),[],rfl,by omega,by omega,fun b hb=>by cases hb⟩
   . obtain⟨d,r,e,h1,h2,h3⟩:=ih (n/10) (by omega) (by omega);rw[e]
     refine⟨d,r++[48+((n%10:Nat):Int)],rfl,h1,h2,fun b hb=>?_⟩
     rcases List.mem_append.mp hb with z|z
     . exact h3 b z
     . simp at z;unfold isF;omega
theorem DI:cX 0=[48]:=by rw[cX];rfl
theorem p8(k:Nat):∀ n:Nat,n<10 ^ (k+1)->(cX n).length<=k+1:=by
 induction k with
 |zero=>intro n h;rw[cX,if_pos (by simpa using h)];simp
 | succ k ih=>
   intro n h;rw[cX];split
   . simp
   . have:n/10<10 ^ (k+1):=by rw[Nat.pow_succ]at h;omega
     have:=ih (n/10) this
     simp;omega
noncomputable def cv(ds:List Int):Int:=ds.foldl (fun n d=>10*n+d - 48) 0
theorem Hy(ds:List Int)(d:Int):cv (ds++[d])=10*cv ds+d - 48:=by simp[cv]
theorem Hj(n:Nat):cv (cX n)=n:=by
 induction n using Nat.strongRecOn with
 | _ n ih=>
   rw[cX];split
   . simp[cv];omega
   . rw[Hy,ih (n/10) (by omega)];omega
structure Nm where
 neg:Bool
 ip:List Int
 fr:List Int
 ex:Option (Int×List Int×List Int)
noncomputable def frB(fr:List Int):List Int:=if fr=[]then[]else 46 ::fr
noncomputable def exB:Option (Int×List Int×List Int)->List Int
 |none=>[]
 |some (e,s,ds)=>e ::(s++ds)
noncomputable def nb(m:Nm):List Int:=(if m.neg then[45]else[])++(m.ip++(frB m.fr++exB m.ex))
structure Nok(m:Nm):Prop where
 ip:(m.ip=[48]) \/ ∃ d r,m.ip=d ::r /\ 49<=d /\ d<=57 /\ ∀ b∈r,isF b
 fr:∀ b∈m.fr,isF b
 ex:∀ e s ds,m.ex=some (e,s,ds)->(e=101 \/ e=69) /\ (s=[] \/ s=[43] \/ s=[45]) /\ ds≠[] /\ ∀ b∈ds,isF b
noncomputable def nl:It->Bool
 |.figures=>true|.fraction=>true|.exponent=>true
 |_=>false
theorem uN{st:List It}(hc:cnt st<=64)(ds:List Int)(h:∀ b∈ds,isF b):Goes (.figures ::st) ds (.figures ::st):=by
 induction ds with
 |nil=>exact .nil _
 | cons d ds ih=>
   refine Goes.step (l:=[.figures]) ?_ rfl hc (ih fun b hb=>h b (List.mem_cons_of_mem _ hb));have:=h d List.mem_cons_self;simp only[bh];rw[if_pos this]
theorem FZ{m:Nm}(h:Nok m){st:List It}(hc:cnt st<=64):∃ ls,ls.all nl=true /\ Goes (.value ::st) (nb m) (ls++st):=by
 have n1:∀ it:It,opn it=false->∀ st,cnt st<=64->cnt (it ::st)<=64:=fun it ho st h=>by rw[cnt_cons,ho];simp;omega
 have hlead:∃ ls,(ls=[.fraction,.exponent] \/ ls=[.figures,.fraction,.exponent]) /\ Goes (.lead ::st) m.ip (ls++st) /\ ∀ b r,m.ip=b ::r->bh .value b=bh .lead b:=by
  rcases h.ip with e|⟨d,r,e,h1,h2,h3⟩
  . exact⟨_,.inl rfl,by rw[e];exact Goes.step (l:=[.fraction,.exponent]) rfl rfl hc (.nil _),fun b r e2=>by rw[e]at e2;cases e2;rfl⟩
  . refine⟨_,.inr rfl,?_,fun b r' e2=>?_⟩
    . rw[e];refine Goes.step (l:=[.figures,.fraction,.exponent]) ?_ rfl hc ?_
      . simp only[bh,nz];rw[if_neg (by omega),if_pos (by omega)]
      . exact uN (n1 _ rfl _ (n1 _ rfl _ hc)) r h3
    . rw[e]at e2;cases e2;simp only[bh,lA];rw[if_neg (by omega),if_neg (by omega),if_neg (by omega),if_neg (by omega),if_neg (by omega),if_neg (by omega),if_neg (by omega)]
 obtain⟨ls,hls,g1,g2⟩:=hlead
 have g3:Goes (.value ::st) ((if m.neg then[45]else[])++m.ip) (ls++st):=by
  cases m.neg with
  |true=>exact Goes.step (l:=[.lead]) rfl rfl hc g1
  | false=>
    rw[if_neg (by decide),List.nil_append]
    rcases h.ip with e|⟨d,r,e,_⟩
    . intro q;have e1:=g1 q;have e2:=g2 48 [] e
      rw[e]at e1 ⊢
      rw[<- e1];simp[tk,gon,e2,loose]
    . intro q;have e1:=g1 q;have e2:=g2 d r e
      have ne:∃ l,bh .lead d=some l:=by
       rw[e]at e1
       cases e3:bh .lead d with
       |some l=>exact⟨l,rfl⟩
       |none=>simp[tk,gon,e3,loose]at e1
      obtain⟨l,hl⟩:=ne
      rw[e]at e1 ⊢
      rw[<- e1];simp[tk,gon,e2,hl]
 have g4:∃ ls',(ls'=[.figures,.exponent] \/ ls'=[.fraction,.exponent] \/ ls'=[.figures,.fraction,.exponent]) /\ Goes (ls++st) (frB m.fr) (ls'++st):=by
  unfold frB
  cases e:m.fr with
  | nil=>
    rw[if_pos rfl]
    refine⟨ls,?_,.nil _⟩
    rcases hls with z|z
    . exact .inr (.inl z)
    . exact .inr (.inr z)
  | cons d ds=>
    rw[if_neg (by simp)];have hf:=h.fr;rw[e]at hf
    refine⟨_,.inl rfl,?_⟩
    have base:Goes (.fraction ::.exponent ::st) (46 ::d ::ds) (.figures ::.exponent ::st):=by
     refine Goes.step (l:=[.sp 48 57,.figures]) rfl rfl (n1 _ rfl _ hc) (Goes.step (l:=[]) ?_ rfl (n1 _ rfl _ (n1 _ rfl _ hc)) (uN (n1 _ rfl _ hc) ds fun b hb=>hf b (List.mem_cons_of_mem _ hb)));have:=hf d List.mem_cons_self;simp only[bh];rw[if_pos this]
    rcases hls with z|z
    . subst z;exact base
    . subst z;exact Goes.skip rfl rfl base
 obtain⟨ls',hls',g5⟩:=g4
 have g6:∃ ls2,ls2.all nl=true /\ Goes (ls'++st) (exB m.ex) (ls2++st):=by
  cases e:m.ex with
  | none=>
    refine⟨ls',?_,.nil _⟩
    rcases hls' with z|z|z<;>(subst z;rfl)
  | some x=>
    obtain⟨eb,s,ds⟩:=x;obtain⟨he,hs,hd,hf⟩:=h.ex eb s ds e
    refine⟨[.figures],rfl,?_⟩
    have base:Goes (.exponent ::st) (eb ::(s++ds)) (.figures ::st):=by
     refine Goes.step (l:=[.sign,.sp 48 57,.figures]) (by rcases he with rfl|rfl<;>rfl) rfl hc ?_
     obtain⟨d,r,ed⟩:∃ d r,ds=d ::r:=by
      cases ds with
      |nil=>exact absurd rfl hd
      |cons d r=>exact⟨d,r,rfl⟩
     subst ed;have hd1:=hf d List.mem_cons_self
     have tail:Goes (.sp 48 57 ::.figures ::st) (d ::r) (.figures ::st):=by
      refine Goes.step (l:=[]) ?_ rfl (n1 _ rfl _ hc) (uN hc r fun b hb=>hf b (List.mem_cons_of_mem _ hb));simp only[bh];rw[if_pos hd1]
     rcases hs with rfl|rfl|rfl
     . refine Goes.skip ?_ rfl tail;unfold isF at hd1;simp only[bh];rw[if_neg (by omega)]
     . exact Goes.step (l:=[]) rfl rfl (n1 _ rfl _ (n1 _ rfl _ hc)) tail
     . exact Goes.step (l:=[]) rfl rfl (n1 _ rfl _ (n1 _ rfl _ hc)) tail
    have k1:bh .figures eb=none:=by rcases he with rfl|rfl<;>rfl
    have k2:bh .fraction eb=none:=by rcases he with rfl|rfl<;>rfl
    rcases hls' with z|z|z
    . subst z;exact Goes.skip k1 rfl base
    . subst z;exact Goes.skip k2 rfl base
    . subst z;exact Goes.skip k1 rfl (Goes.skip k2 rfl base)
 obtain⟨ls2,hl2,g7⟩:=g6
 refine⟨ls2,hl2,?_⟩
 have:=g3.trans (g5.trans g7);unfold nb
 simpa using this
theorem Ed{ls st st':List It}{b:Int}{bs:List Int}(h:ls.all nl=true)(hb:bh .figures b=none /\ bh .fraction b=none /\ bh .exponent b=none)(k:Goes st (b ::bs) st'):Goes (ls++st) (b ::bs) st':=by
 induction ls with
 |nil=>exact k
 | cons it ls ih=>
   simp only[List.all_cons,Bool.and_eq_true]at h
   cases it with
   |figures=>exact Goes.skip hb.1 rfl (ih h.2)
   |fraction=>exact Goes.skip hb.2.1 rfl (ih h.2)
   |exponent=>exact Goes.skip hb.2.2 rfl (ih h.2)
   |_=>exact absurd h.1 (by simp[nl])
theorem EM{ls:List It}(h:ls.all nl=true):ls.all loose=true:=by
 rw[List.all_eq_true]at h ⊢
 intro it hi;have:=h it hi
 cases it<;>first|rfl|(exact absurd this (by simp[nl]))
noncomputable def plb(b:Int):Prop:=isF b \/ b=45 \/ b=43 \/ b=46 \/ b=101 \/ b=69
theorem AB{m:Nm}(h:Nok m):∀ b∈nb m,plb b:=by
 intro b hb;unfold nb at hb
 rcases List.mem_append.mp hb with z|z
 . split at z
   . simp at z;exact .inr (.inl z)
   . cases z
 . rcases List.mem_append.mp z with z|z
   . left
     rcases h.ip with e|⟨d,r,e,h1,h2,h3⟩
     . rw[e]at z;simp at z;unfold isF;omega
     . rw[e]at z
       rcases List.mem_cons.mp z with y|y
       . unfold isF;omega
       . exact h3 b y
   . rcases List.mem_append.mp z with z|z
     . unfold frB at z;split at z
       . cases z
       . rcases List.mem_cons.mp z with y|y
         . exact .inr (.inr (.inr (.inl y)))
         . exact .inl (h.fr b y)
     . cases e:m.ex with
       |none=>rw[e]at z;cases z
       | some x=>
         obtain⟨eb,s,ds⟩:=x;obtain⟨he,hs,hd,hf⟩:=h.ex eb s ds e;rw[e]at z
         rcases List.mem_cons.mp z with y|y
         . subst y;rcases he with y|y
           . exact .inr (.inr (.inr (.inr (.inl y))))
           . exact .inr (.inr (.inr (.inr (.inr y))))
         . rcases List.mem_append.mp y with y|y
           . rcases hs with rfl|rfl|rfl
             . cases y
             . simp at y;exact .inr (.inr (.inl y))
             . simp at y;exact .inr (.inl y)
           . exact .inl (hf b y)
end PG
namespace PG
open L2.P PySem
noncomputable def out:List Bool->List It
 |[]=>[.br]
 |r ::fs=>.br ::(if r then .mrow else .mfields) ::out fs
noncomputable def hd(r e:Bool):It:=if r then(if e then .row else .mrow)else(if e then .fields else .mfields)
noncomputable def stk(r e:Bool)(fs:List Bool):List It:=.br ::hd r e ::out fs
theorem lI:∀ fs:List Bool,cnt (out fs)=fs.length
 |[]=>rfl
 | r ::fs=>by
   show cnt (.br ::(if r then It.mrow else It.mfields) ::out fs)=fs.length+1;rw[cnt_cons,cnt_cons,lI fs]
   cases r<;>simp[opn]<;>omega
noncomputable def Gs(a:List It)(xs:List Int)(b:List It):Prop:=∃ ls,ls.all nl=true /\ Goes a xs (ls++b)
theorem Gs.of{a b:List It}{xs:List Int}(h:Goes a xs b):Gs a xs b:=⟨[],rfl,h⟩
noncomputable def A8(b:Int):Prop:=bh .figures b=none /\ bh .fraction b=none /\ bh .exponent b=none
theorem Gs.go{a b c:List It}{xs ys:List Int}{y:Int}(h:Gs a xs b)(hy:A8 y)(k:Goes b (y ::ys) c):Goes a (xs++y ::ys) c:=by
 obtain⟨ls,hl,h⟩:=h;exact h.trans (Ed hl hy k)
theorem DZ{b:Int}(h:wht b=true):A8 b:=by
 unfold wht at h;simp only[Bool.or_eq_true,decide_eq_true_eq]at h
 refine⟨?_,?_,?_⟩<;>rcases h with h|h|h|h<;>subst h<;>rfl
theorem AG:A8 44:=⟨rfl,rfl,rfl⟩
theorem Ey:A8 93:=⟨rfl,rfl,rfl⟩
theorem D5:A8 125:=⟨rfl,rfl,rfl⟩
theorem fK{st:List It}(hc:cnt st<=64):∀ ws:List Int,(∀ b∈ws,wht b=true)->Goes (.br ::st) ws (.br ::st)
 |[],_=>Goes.nil _
 |w ::ws,h=>Goes.step (l:=[.br]) (by simp[bh,h w (List.mem_cons_self)]) rfl hc (fK hc ws fun b hb=>h b (List.mem_cons_of_mem _ hb))
theorem Gs.br{a st:List It}{xs ws:List Int}(h:Gs a xs (.br ::st))(hc:cnt st<=64)(hw:∀ b∈ws,wht b=true):Gs a (xs++ws) (.br ::st):=by
 cases ws with
 |nil=>rw[List.append_nil];exact h
 |cons w ws=>exact .of (h.go (DZ (hw w List.mem_cons_self)) (fK hc _ hw))
theorem Goes.past{st st':List It}{b:Int}{bs:List Int}(hb:wht b=false)(k:Goes st (b ::bs) st'):Goes (.br ::st) (b ::bs) st':=
 Goes.skip (by simp[bh,hb]) rfl k
theorem Goes.one{it:It}{st l:List It}{b:Int}(h:bh it b=some l)(hc:cnt (l++st)<=64):Goes (it ::st) [b] (l++st):=fun r=>by
 have:gon (it ::st) b=(l++st,true):=by unfold gon;rw[h];simp[hc]
 show tk (it ::st) (b ::r)=_;rw[Ng this];rfl
theorem Gs.Ee{a:List It}{xs:List Int}{fs:List Bool}(h:Gs a xs (stk true false fs))(hc:fs.length<64):Goes a (xs++[44]) (.br ::.value ::out (true ::fs)):=by
 refine h.go AG (.past rfl ?_)
 have:=Goes.one (it:=.mrow) (st:=out fs) (b:=44) (l:=[.br,.value,.br,.mrow]) rfl (by
  show cnt (.br ::.value ::out (true ::fs))<=64
  rw[cnt_cons,cnt_cons,lI];simp[opn];omega)
 exact this
theorem Gs.zb{a:List It}{xs:List Int}{fs:List Bool}(h:Gs a xs (stk false false fs))(hc:fs.length<64):Goes a (xs++[44]) (.br ::.name ::.br ::.sp 58 58 ::.br ::.value ::out (false ::fs)):=by
 refine h.go AG (.past rfl ?_)
 have:=Goes.one (it:=.mfields) (st:=out fs) (b:=44) (l:=.br ::.name ::tL) rfl (by
  show cnt (.br ::.name ::.br ::.sp 58 58 ::.br ::.value ::out (false ::fs))<=64
  simp only[cnt_cons,lI];simp[opn];omega)
 exact this
theorem Gs.close{a:List It}{xs:List Int}{fs:List Bool}(r e:Bool)(h:Gs a xs (stk r e fs))(hc:fs.length<=64):Goes a (xs++[if r then 93 else 125]) (out fs):=by
 refine h.go (by cases r;exact D5;exact Ey) (.past (by cases r<;>rfl) ?_);exact Goes.one (it:=hd r e) (st:=out fs) (l:=[]) (by cases r<;>cases e<;>rfl) (by rw[List.nil_append,lI];exact hc)
theorem DM{fs:List Bool}(r:Bool)(hc:fs.length<64):Goes (.value ::out fs) [if r then 91 else 123] (stk r true fs):=by
 have:=Goes.one (it:=.value) (st:=out fs) (b:=if r then 91 else 123) (l:=[.br,hd r true]) (by cases r<;>rfl) (by
  show cnt (.br ::hd r true ::out fs)<=64
  rw[cnt_cons,cnt_cons,lI];cases r<;>simp[opn,hd]<;>omega)
 exact this
theorem BF{fs:List Bool}{b:Int}{bs:List Int}{st' l:List It}(hb:lA b=some l)(hn:b≠93)(k:Goes (.value ::out (true ::fs)) (b ::bs) st'):Goes (.row ::out fs) (b ::bs) st':=fun r=>by
 rw[<- k r]
 have e1:bh .row b=some (l++[.br,.mrow]):=by simp[bh,hn,hb]
 have e2:bh .value b=some l:=hb
 have:gon (.row ::out fs) b=gon (.value ::out (true ::fs)) b:=by
  unfold gon;rw[e1,e2];simp[out]
 show tk _ (b ::(bs++r))=tk _ (b ::(bs++r));unfold tk;rw[this]
inductive Wd where|null|tru|fal
noncomputable def wdb:Wd->List Int
 |.null=>[110,117,108,108]|.tru=>[116,114,117,101]|.fal=>[102,97,108,115,101]
theorem jC{c:Int}{st:List It}(hc:cnt st<=64):Goes (.sp c c ::st) [c] st:=by
 have:=Goes.one (it:=.sp c c) (st:=st) (b:=c) (l:=[]) (by simp[bh]) hc;exact this
theorem DF{st:List It}(hc:cnt st<=64)(w:Wd):Goes (.value ::st) (wdb w) st:=by
 cases w with
 |null=>exact Goes.step (l:=[.sp 117 117,.sp 108 108,.sp 108 108]) rfl rfl hc (Goes.trans (xs:=[117]) (jC (by simpa [cnt_cons,opn]using hc)) (Goes.trans (xs:=[108]) (jC (by simpa [cnt_cons,opn]using hc)) (jC hc)))
 |tru=>exact Goes.step (l:=[.sp 114 114,.sp 117 117,.sp 101 101]) rfl rfl hc (Goes.trans (xs:=[114]) (jC (by simpa [cnt_cons,opn]using hc)) (Goes.trans (xs:=[117]) (jC (by simpa [cnt_cons,opn]using hc)) (jC hc)))
 |fal=>exact Goes.step (l:=[.sp 97 97,.sp 108 108,.sp 115 115,.sp 101 101]) rfl rfl hc (Goes.trans (xs:=[97]) (jC (by simpa [cnt_cons,opn]using hc)) (Goes.trans (xs:=[108]) (jC (by simpa [cnt_cons,opn]using hc)) (Goes.trans (xs:=[115]) (jC (by simpa [cnt_cons,opn]using hc)) (jC hc))))
inductive Lf where|wd(w:Wd)|nm(m:Nm)|tx(l:List Sg)
noncomputable def lfb:Lf->List Int
 |.wd w=>wdb w|.nm m=>nb m|.tx l=>txt l
noncomputable def Lok:Lf->Prop
 |.wd _=>True|.nm m=>Nok m|.tx l=>∀ s∈l,Sok s
theorem GP{st:List It}(hc:cnt st<=64)(x:Lf)(h:Lok x):Gs (.value ::st) (lfb x) st:=by
 cases x with
 |wd w=>exact .of (DF hc w)
 |nm m=>exact FZ h hc
 |tx l=>exact .of (BV l h hc)
theorem DP{st:List It}(hc:cnt st<=64)(l:List Sg)(h:∀ s∈l,Sok s):Goes (.name ::st) (txt l) st:=
 Goes.step (l:=[.text]) rfl rfl hc (uB l h st hc)
theorem AR{fs:List Bool}(hc:fs.length<64)(l:List Sg)(h:∀ s∈l,Sok s):Goes (.fields ::out fs) (txt l) (.br ::.sp 58 58 ::.br ::.value ::out (false ::fs)):=by
 have hcc:cnt (.br ::.sp 58 58 ::.br ::.value ::out (false ::fs))<=64:=by simp only[cnt_cons,lI];simp[opn];omega
 have h1:=Goes.one (it:=.fields) (st:=out fs) (b:=34) (l:=.text ::tL) rfl (by
  show cnt (.text ::.br ::.sp 58 58 ::.br ::.value ::out (false ::fs))<=64
  rw[cnt_cons];simpa [opn]using hcc)
 exact Goes.trans h1 (uB l h _ hcc)
theorem wZ{st:List It}(hc:cnt st<=64){ws:List Int}(hw:∀ b∈ws,wht b=true):Goes (.br ::.sp 58 58 ::.br ::st) (ws++[58]) (.br ::st):=
 (fK (by simpa [cnt_cons,opn]using hc) ws hw).trans (.past rfl (jC (by simpa [cnt_cons,opn]using hc)))
theorem Gs.flt{row:List Int}(h:Gs st0 row [.br]):flt row=none:=by
 obtain⟨ls,hl,h⟩:=h;refine h.flt ?_;rw[List.all_append,EM hl];rfl
noncomputable def tb(b:Int):Prop:=wht b=true \/ isF b \/ b=46 \/ b=101 \/ b=69 \/ b=43 \/ b=45
theorem Goes.whole{a b:List It}{xs:List Int}(h:Goes a xs b):(tk a xs).2=xs.length:=by
 have:=h [];rw[List.append_nil]at this;rw[this];simp[tk]
end PG
namespace L2.plainglass_k11_nodes_told
open PySem L2.P PG
noncomputable def pG(c:String):Bool:=c == "Walk"
noncomputable def wq:ag -> OS:=
    (aG (bf (cU (ao 0))
    (bc (mOp gN (ao 0) (mOp cI (ao 1) (mUn mM (ao 0)))))
    aS)
    (bc (mC (.int 0))))
noncomputable def i8:List PV->OE:=fnP 2 2 wq
noncomputable def va:ag -> OS:=
    (bc (mOp cI (mOp dZ (mOp AS (mOp dH (ao 2) (mC (.int 64))) (mC (.int 69621))) (ao 2)) (mC (.int 4294967231))))
noncomputable def u6:ag -> OS:=
    (aG (bq 2 (mOp cI (mOp AS (ao 2) (mC (.int 48271))) (mC (.int 4294967279))))
    va)
noncomputable def xw:ag -> OS:=
    (aG (bq 2 (mOp cI (mOp dZ (bp i8 (ak (ao 0) (ak (ao 1) aJ))) (mOp AS (mC (.int 104729)) (mOp dZ (ao 1) (mC (.int 1))))) (mC (.int 4294967291))))
    u6)
noncomputable def fk:List PV->OE:=fnP 2 3 xw
noncomputable def km:ag -> OS:=
    (gz 4)
noncomputable def nF:ag -> OS:=
    (aG (bf (dE 2 aI)
    (aG (bR 2 (pIx 2 (pIx 2 aI (mUn hZ (mC (.int 1)))) (mC (.int 1))) (mD (gG (aB (mOp gEq (de 2 (pIx 2 (pIx 2 aI (mUn hZ (mC (.int 1)))) (mC (.int 0)))) (mC (.str "row")))) (ao 4) (fh (ak (de 3 (pIx 3 aI (mC (.int 3)))) (ak (ao 4) aJ))))))
    (bf (aB (mOp gEq (de 2 (pIx 2 (pIx 2 aI (mUn hZ (mC (.int 1)))) (mC (.int 0)))) (mC (.str "fields"))))
    (qj 1 (pIx 1 aI (mOp xp (de 3 (pIx 3 aI (mC (.int 2)))) (mC (.int 1)))) (mC (.int 3)) (mD (gJ 1 aI)))
    aS))
    aS)
    km)
noncomputable def ky:ag -> OS:=
    (aG (bq 4 (fh (ak (de 3 (pIx 3 aI (mC (.int 0)))) (ak (mUn nM (de 3 (pIx 3 aI (mC (.int 1))))) aJ))))
    nF)
noncomputable def r6:ag -> OS:=
    (aG (qj 1 (pIx 1 aI (de 3 (pIx 3 aI (mC (.int 2))))) (mC (.int 3)) (mD (gJ 1 aI)))
    ky)
noncomputable def rL:ag -> OS:=
    (aG (qj 1 (pIx 1 aI (de 3 (pIx 3 aI (mC (.int 2))))) (mC (.int 2)) (mD (gJ 0 aI)))
    r6)
noncomputable def rN:ag -> OS:=
    (aG (bR 0 aI (mD (gG (aB (mOp gEq (de 3 (pIx 3 aI (mC (.int 0)))) (mC (.str "row")))) (mC (.int 93)) (mC (.int 125)))))
    rL)
noncomputable def p6:ag -> OS:=
    (aG (iE 3 (mR 2 aI))
    rN)
noncomputable def cW:List Sl->OI:=fnI 3 5 p6
noncomputable def kh:ag -> OE:=
    (mOp gN (b5 (ak (mC (.int 32)) (ak (mC (.int 9)) (ak (mC (.int 10)) (ak (mC (.int 13)) aJ))))) (mOp cI (mOp dH (mOp dH (ao 0) (mC (.int 4))) (mOp dZ (mC (.int 1)) (mOp AS (mC (.int 3)) (ao 1)))) (mC (.int 4))))
noncomputable def pW:ag -> OS:=
    (aG (bf (aB (mOp gGt (mOp cI (ao 0) (mC (.int 4))) (mC (.int 0))))
    (bc (b5 aJ))
    aS)
    (bc (vN (mOp dZ (mOp cI (mOp dH (ao 0) (mC (.int 64))) (mC (.int 3))) (mC (.int 1))) [0] kh)))
noncomputable def cF:List PV->OE:=fnP 1 1 pW
noncomputable def fN:ag -> OS:=
    (bc (mOp dZ (mC (.int 65536)) (mOp cI (ao 2) (mC (.int 1048576)))))
noncomputable def fO:ag -> OS:=
    (aG (bf (aB (mOp gEq (ao 1) (mC (.int 6))))
    (bc (mOp dZ (mC (.int 57344)) (mOp cI (ao 2) (mC (.int 8192)))))
    aS)
    fN)
noncomputable def fP:ag -> OS:=
    (aG (bf (aB (mOp gEq (ao 1) (mC (.int 5))))
    (bc (mOp dZ (mC (.int 2048)) (mOp cI (ao 2) (mC (.int 53248)))))
    aS)
    fO)
noncomputable def fI:ag -> OS:=
    (aG (bf (aB (mOp gEq (ao 1) (mC (.int 4))))
    (bc (mOp dZ (mC (.int 128)) (mOp cI (ao 2) (mC (.int 1920)))))
    aS)
    fP)
noncomputable def fG:ag -> OS:=
    (aG (bf (aB (mOp gLt (ao 1) (mC (.int 4))))
    (bc (mOp gN (b5 (ak (mC (.int 34)) (ak (mC (.int 92)) (ak (mC (.int 47)) (ak (mC (.int 8)) (ak (mC (.int 12)) (ak (mC (.int 10)) (ak (mC (.int 13)) (ak (mC (.int 9)) (ak (mC (.int 0)) (ak (mC (.int 31)) (ak (mC (.int 127)) aJ)))))))))))) (mOp cI (ao 2) (mC (.int 11)))))
    aS)
    fI)
noncomputable def fM:ag -> OS:=
    (aG (bf (aB (mOp gLt (ao 1) (mC (.int 2))))
    (bc (mOp dZ (mC (.int 32)) (mOp cI (ao 2) (mC (.int 95)))))
    aS)
    fG)
noncomputable def fJ:ag -> OS:=
    (aG (bq 2 (mOp dH (ao 0) (mC (.int 8))))
    fM)
noncomputable def gY:ag -> OS:=
    (aG (bq 1 (mOp cI (ao 0) (mC (.int 8))))
    fJ)
noncomputable def dI:List PV->OE:=fnP 1 3 gY
noncomputable def mi:ag -> OE:=
    (bp dI (ak (bp fk (ak (ao 0) (ak (mOp dZ (mOp dZ (ao 1) (mC (.int 1))) (ao 2)) aJ))) aJ))
noncomputable def lR:ag -> OS:=
    (bc (vN (ao 3) [0,1] mi))
noncomputable def lU:ag -> OS:=
    (aG (bf (aB (mOp gEq (mOp cI (mOp dH (ao 2) (mC (.int 5))) (mC (.int 8))) (mC (.int 3))))
    (bq 3 (mOp cI (mOp dH (ao 2) (mC (.int 40))) (mC (.int 14))))
    aS)
    lR)
noncomputable def mH:ag -> OS:=
    (aG (bq 3 (mOp cI (ao 2) (mC (.int 5))))
    lU)
noncomputable def oi:ag -> OS:=
    (aG (bq 2 (bp fk (ak (ao 0) (ak (ao 1) aJ))))
    mH)
noncomputable def eM:List PV->OE:=fnP 2 4 oi
noncomputable def sm:ag -> OS:=
    (aG (bf (aB (mOp gEq (mOp cI (ao 1) (mC (.int 2))) (mC (.int 0))))
    (bc (b5 (ak (mOp dZ (mC (.int 97)) (mOp cI (mOp dH (ao 1) (mC (.int 2))) (mC (.int 3)))) aJ)))
    aS)
    (bc (bp eM (ak (ao 0) (ak (mOp dZ (mC (.int 11)) (mOp cI (mOp dH (ao 1) (mC (.int 2))) (mC (.int 37)))) aJ)))))
noncomputable def ij:List PV->OE:=fnP 2 2 sm
noncomputable def iS:ag -> OS:=
    (aG (bq 2 (mOp nB (b5 (ak (mOp dZ (mC (.int 128)) (mOp cI (ao 0) (mC (.int 64)))) aJ)) (ao 2)))
    (bq 0 (mOp dH (ao 0) (mC (.int 64)))))
noncomputable def iW:ag -> OS:=
    (bc (mOp nB (b5 (ak (mOp dZ (mOp gN (b5 (ak (mC (.int 192)) (ak (mC (.int 224)) (ak (mC (.int 240)) aJ)))) (mOp xp (ao 1) (mC (.int 1)))) (ao 0)) aJ)) (ao 2)))
noncomputable def iY:ag -> OS:=
    (aG (tR 3 (ao 1)
    iS)
    iW)
noncomputable def iV:ag -> OS:=
    (aG (bq 2 (b5 aJ))
    iY)
noncomputable def iU:ag -> OS:=
    (aG (bq 1 (mOp dZ (mOp dZ (mC (.int 1)) (mUn zR (mOp gGe (ao 0) (mC (.int 2048))))) (mUn zR (mOp gGe (ao 0) (mC (.int 65536))))))
    iV)
noncomputable def kL:ag -> OS:=
    (aG (bf (aB (mOp gLt (ao 0) (mC (.int 128))))
    (bc (b5 (ak (ao 0) aJ)))
    aS)
    iU)
noncomputable def eQ:List PV->OE:=fnP 1 4 kL
noncomputable def mO:ag -> OS:=
    (aG (bq 4 (mOp cI (ao 0) (mC (.int 16))))
    (aG (bf (aB (mOp gLt (ao 4) (mC (.int 10))))
    (bq 2 (mOp nB (b5 (ak (mOp dZ (mC (.int 48)) (ao 4)) aJ)) (ao 2)))
    (bq 2 (mOp nB (b5 (ak (mOp dZ (gG (cU (ao 1)) (mC (.int 55)) (mC (.int 87))) (ao 4)) aJ)) (ao 2))))
    (bq 0 (mOp dH (ao 0) (mC (.int 16))))))
noncomputable def uS:ag -> OS:=
    (bc (mOp nB (b5 (ak (mC (.int 92)) (ak (mC (.int 117)) aJ))) (ao 2)))
noncomputable def uT:ag -> OS:=
    (aG (tR 3 (mC (.int 4))
    mO)
    uS)
noncomputable def xF:ag -> OS:=
    (aG (bq 2 (b5 aJ))
    uT)
noncomputable def il:List PV->OE:=fnP 2 5 xF
noncomputable def tW:ag -> OS:=
    (bc (mOp nB (bp il (ak (mOp dZ (mC (.int 55296)) (mOp dH (ao 4) (mC (.int 1024)))) (ak (mOp gEq (ao 3) (mC (.int 1))) aJ))) (bp il (ak (mOp dZ (mC (.int 56320)) (mOp cI (ao 4) (mC (.int 1024)))) (ak (mOp gEq (ao 3) (mC (.int 0))) aJ)))))
noncomputable def sV:ag -> OS:=
    (aG (bq 4 (mOp xp (ao 0) (mC (.int 65536))))
    tW)
noncomputable def lF:ag -> OS:=
    (aG (bf (aB (mOp gLt (ao 0) (mC (.int 65536))))
    (bc (bp il (ak (ao 0) (ak (mOp gEq (ao 3) (mC (.int 1))) aJ))))
    aS)
    sV)
noncomputable def fw:ag -> OS:=
    (aG (bf (fo (aB (mOp gGt (ao 3) (mC (.int 1)))) (fo (aB (mOp gGe (ao 0) (mC (.int 32)))) (fo (aB (mOp gNe (ao 0) (mC (.int 34)))) (aB (mOp gNe (ao 0) (mC (.int 92)))))))
    (bc (bp eQ (ak (ao 0) aJ)))
    aS)
    lF)
noncomputable def oR:ag -> OS:=
    (aG (bf (fo (aB (mOp gEq (ao 3) (mC (.int 0)))) (aB (zH false (ao 0) 2 aI)))
    (bc (b5 (ak (mC (.int 92)) (ak (C8 2 aI (ao 0)) aJ))))
    aS)
    fw)
noncomputable def jv:ag -> OS:=
    (aG (bq 3 (mOp cI (ao 1) (mC (.int 5))))
    oR)
noncomputable def wA:ag -> OS:=
    (aG (lx 2 (LW [(34,34),(92,92),(47,47),(8,98),(12,102),(10,110),(13,114),(9,116)]))
    jv)
noncomputable def i6:List PV->OE:=fnP 2 5 wA
noncomputable def lB:ag -> OS:=
    (aG (bq 2 (mOp nB (ao 2) (bp i6 (ak (ao 4) (ak (mOp dZ (mOp dH (ao 1) (mOp dZ (mC (.int 1)) (mOp cI (ao 3) (mC (.int 7))))) (ao 3)) aJ)))))
    (bq 3 (mOp dZ (ao 3) (mC (.int 1)))))
noncomputable def sY:ag -> OS:=
    (bc (mOp nB (ao 2) (b5 (ak (mC (.int 34)) aJ))))
noncomputable def tN:ag -> OS:=
    (aG (u2 4 (ao 0)
    lB)
    sY)
noncomputable def sX:ag -> OS:=
    (aG (bq 3 (mC (.int 0)))
    tN)
noncomputable def wQ:ag -> OS:=
    (aG (bq 2 (b5 (ak (mC (.int 34)) aJ)))
    sX)
noncomputable def gd:List PV->OE:=fnP 2 5 wQ
noncomputable def nA:ag -> OS:=
    (gz 5)
noncomputable def ny:ag -> OS:=
    (aG (bf (fo (dE 3 aI) (aB (mOp gEq (de 3 (pIx 3 (pIx 3 aI (mUn hZ (mC (.int 1)))) (mC (.int 0)))) (mC (.str "fields")))))
    (aG (bq 6 (bp ij (ak (ao 0) (ak (mOp dH (ao 4) (mC (.int 13))) aJ))))
    (aG (bq 5 (mUn nM (ao 6)))
    (aG (bq 7 (gJ 1 aI))
    (aG (iz 6 (dP 1 aI (bp gd (ak (ao 6) (ak (mOp dH (ao 4) (mC (.int 17))) aJ)))))
    (aG (bR 2 aI (mD (b5 (ak (mC (.str "name")) (ak (ao 7) (ak (gJ 1 aI) (ak (mC (.int 0)) aJ)))))))
    (aG (dP 1 aI (bp cF (ak (mOp dH (ao 4) (mC (.int 19))) aJ)))
    (aG (bR 1 aI (mD (mC (.int 58))))
    (dP 1 aI (bp cF (ak (mOp dH (ao 4) (mC (.int 23))) aJ))))))))))
    aS)
    nA)
noncomputable def rK:ag -> OS:=
    (aG (bf (fo (dE 3 aI) (cU (de 3 (pIx 3 (pIx 3 aI (mUn hZ (mC (.int 1)))) (mC (.int 1))))))
    (aG (bR 1 aI (mD (mC (.int 44))))
    (dP 1 aI (bp cF (ak (mOp dH (ao 4) (mC (.int 11))) aJ))))
    aS)
    ny)
noncomputable def rM:ag -> OS:=
    (aG (bq 5 (fh aJ))
    rK)
noncomputable def mS:ag -> OS:=
    (aG (dP 1 aI (bp cF (ak (mOp dH (ao 4) (mC (.int 3))) aJ)))
    rM)
noncomputable def fW:List Sl->OI:=fnI 5 8 mS
noncomputable def iX:ag -> OT:=
    (aB (mOp gEq (mOp cI (ao 0) (mC (.int 10))) (mC (.int 0))))
noncomputable def ko:ag -> OS:=
    (aG (bq 0 (mOp dH (ao 0) (mC (.int 10))))
    (bq 1 (mOp dZ (ao 1) (mC (.int 1)))))
noncomputable def sd:ag -> OS:=
    (bc (fh (ak (ao 0) (ak (ao 1) aJ))))
noncomputable def r9:ag -> OS:=
    (aG (bX iX
    ko fuel)
    sd)
noncomputable def qI:ag -> OS:=
    (aG (bf (aB (mOp gEq (ao 0) (mC (.int 0))))
    (bc (fh (ak (mC (.int 0)) (ak (mC (.int 0)) aJ))))
    aS)
    r9)
noncomputable def fF:List PV->OE:=fnP 2 2 qI
noncomputable def g8:ag -> OE:=
    (mUn Cj (ao 0))
noncomputable def jH:ag -> OE:=
    (mOp dZ (mC (.int 48)) (ao 0))
noncomputable def fV:ag -> OS:=
    (bq 4 (mOp dZ (mOp AS (ao 4) (mC (.int 10))) (ao 5)))
noncomputable def g9:ag -> OS:=
    (aG (eE 3 (mOp dZ (mC (.int 48)) (ao 5)))
    (aG (bq 4 (mOp dZ (mOp AS (ao 4) (mC (.int 10))) (ao 5)))
    (bq 6 (mOp xp (ao 6) (mC (.int 1))))))
noncomputable def fU:ag -> OE:=
    (mUn EK (ao 0))
noncomputable def kZ:ag -> OS:=
    (iz 3 (bc (fh (ak (ao 3) (ak (bp fF (ak (ao 4) (ak (ao 6) aJ))) aJ)))))
noncomputable def pN:ag -> OS:=
    (aG (bf (cU (ao 1))
    (bq 4 (mUn hZ (ao 4)))
    aS)
    kZ)
noncomputable def qE:ag -> OS:=
    (aG (bf (aB (mOp gEq (mOp cI (mOp dH (ao 0) (mC (.int 31))) (mC (.int 3))) (mC (.int 1))))
    (aG (bq 7 (mOp cI (mOp dH (ao 0) (mC (.int 37))) (mC (.int 30))))
    (aG (eE 3 (mOp gN (b5 (ak (mC (.int 101)) (ak (mC (.int 69)) aJ))) (mOp cI (mOp dH (ao 0) (mC (.int 41))) (mC (.int 2)))))
    (aG (bq 8 (mOp gEq (mOp cI (mOp dH (ao 0) (mC (.int 43))) (mC (.int 3))) (mC (.int 1))))
    (aG (bf (cU (ao 8))
    (eE 3 (mC (.int 45)))
    (bf (aB (mOp gEq (mOp cI (mOp dH (ao 0) (mC (.int 43))) (mC (.int 3))) (mC (.int 2))))
    (eE 3 (mC (.int 43)))
    aS))
    (aG (bf (aB (mOp gEq (mOp cI (mOp dH (ao 0) (mC (.int 47))) (mC (.int 4))) (mC (.int 1))))
    (eE 3 (mC (.int 48)))
    aS)
    (aG (bq 3 (mOp nB (ao 3) (qM (mUn qk (ao 7)) [] fU)))
    (bq 6 (mOp dZ (ao 6) (gG (cU (ao 8)) (mUn hZ (ao 7)) (ao 7))))))))))
    aS)
    pN)
noncomputable def qm:ag -> OS:=
    (aG (bf (aB (mOp gEq (mOp cI (mOp dH (ao 0) (mC (.int 17))) (mC (.int 3))) (mC (.int 1))))
    (aG (eE 3 (mC (.int 46)))
    (u2 5 (Iq (b5 (ak (mOp cI (mOp dH (ao 0) (mC (.int 19))) (mC (.int 10))) (ak (mOp cI (mOp dH (ao 0) (mC (.int 23))) (mC (.int 4))) (ak (mC (.int 0)) aJ)))) (mC .non) (Ck (mOp dZ (mC (.int 1)) (mOp cI (mOp dH (ao 0) (mC (.int 29))) (mC (.int 3))))))
    g9))
    aS)
    qE)
noncomputable def qH:ag -> OS:=
    (aG (bq 6 (mC (.int 0)))
    qm)
noncomputable def pO:ag -> OS:=
    (aG (iz 2 (u2 5 (ao 2)
    fV))
    qH)
noncomputable def qN:ag -> OS:=
    (aG (bq 4 (mC (.int 0)))
    pO)
noncomputable def pX:ag -> OS:=
    (aG (bq 3 (mOp nB (ao 3) (uw (ao 2) [] jH)))
    qN)
noncomputable def qa:ag -> OS:=
    (aG (bq 3 (gG (cU (ao 1)) (b5 (ak (mC (.int 45)) aJ)) (b5 aJ)))
    pX)
noncomputable def qp:ag -> OS:=
    (aG (bq 2 (qM (mUn qk (mOp cI (mOp dH (ao 0) (mC (.int 3))) (mC (.int 100000)))) [] g8))
    qa)
noncomputable def sZ:ag -> OS:=
    (aG (bq 1 (mOp gEq (mOp cI (ao 0) (mC (.int 3))) (mC (.int 0))))
    qp)
noncomputable def gg:List PV->OE:=fnP 1 9 sZ
noncomputable def lq:ag -> OS:=
    (bc (fh (ak (mC (.str "number")) (ak (mOp eT (ao 4) (mC (.int 0))) (ak (fh (ak (mC (.str "number")) (ak (mOp eT (mOp eT (ao 4) (mC (.int 1))) (mC (.int 0))) (ak (mOp eT (mOp eT (ao 4) (mC (.int 1))) (mC (.int 1))) aJ)))) aJ)))))
noncomputable def rl:ag -> OS:=
    (aG (bq 4 (bp gg (ak (mOp dH (ao 1) (mC (.int 7))) aJ)))
    lq)
noncomputable def rB:ag -> OS:=
    (aG (bf (aB (mOp gEq (ao 2) (mC (.int 3))))
    (aG (bq 3 (bp eM (ak (ao 0) (ak (mOp dZ (mC (.int 7)) (mOp cI (ao 1) (mC (.int 41)))) aJ))))
    (iz 3 (bc (fh (ak (mC (.str "text")) (ak (bp gd (ak (ao 3) (ak (mOp dH (ao 1) (mC (.int 30))) aJ))) (ak (fh (ak (mC (.str "text")) (ak (mUn nM (ao 3)) aJ))) aJ)))))))
    aS)
    rl)
noncomputable def rh:ag -> OS:=
    (aG (bf (aB (mOp gEq (ao 2) (mC (.int 2))))
    (bc (fh (ak (mC (.str "false")) (ak (b5 (ak (mC (.int 102)) (ak (mC (.int 97)) (ak (mC (.int 108)) (ak (mC (.int 115)) (ak (mC (.int 101)) aJ)))))) (ak (mC (.bl false)) aJ)))))
    aS)
    rB)
noncomputable def rm:ag -> OS:=
    (aG (bf (aB (mOp gEq (ao 2) (mC (.int 1))))
    (bc (fh (ak (mC (.str "true")) (ak (b5 (ak (mC (.int 116)) (ak (mC (.int 114)) (ak (mC (.int 117)) (ak (mC (.int 101)) aJ))))) (ak (mC (.bl true)) aJ)))))
    aS)
    rh)
noncomputable def lp:ag -> OS:=
    (aG (bf (aB (mOp gEq (ao 2) (mC (.int 0))))
    (bc (fh (ak (mC (.str "null")) (ak (b5 (ak (mC (.int 110)) (ak (mC (.int 117)) (ak (mC (.int 108)) (ak (mC (.int 108)) aJ))))) (ak (mC .non) aJ)))))
    aS)
    rm)
noncomputable def mT:ag -> OS:=
    (aG (bq 2 (mOp cI (mOp dH (ao 1) (mC (.int 5))) (mC (.int 6))))
    lp)
noncomputable def cA:List PV->OE:=fnP 2 5 mT
noncomputable def iR:ag -> OS:=
    (aG (bq 7 (bp fk (ak (ao 0) (ak (ao 6) aJ))))
    (bf (fo (dE 4 aI) (aB (mOp gEq (mOp cI (ao 7) (mC (.int 5))) (mC (.int 1)))))
    (aG (dP 2 aI (bp cF (ak (mOp dH (ao 7) (mC (.int 3))) aJ)))
    (iE 5 (jP cW [.t 2 aI,.t 3 aI,.t 4 aI])))
    (bf (mL (dE 4 aI) (aB (mOp gEq (ao 6) (mC (.int 0)))))
    (aG (iE 8 (jP fW [.e (ao 0),.t 2 aI,.t 3 aI,.t 4 aI,.e (ao 7)]))
    (aG (bq 9 (gJ 2 aI))
    (bf (mL (aB (mOp gGt (mOp cI (ao 7) (mC (.int 5))) (mC (.int 2)))) (fo (aB (mOp gEq (ao 6) (mC (.int 0)))) (aB (mOp gGt (mOp cI (ao 7) (mC (.int 9))) (mC (.int 0))))))
    (aG (bq 10 (mOp gN (b5 (ak (mC (.str "row")) (ak (mC (.str "fields")) aJ))) (mOp cI (mOp dH (ao 7) (mC (.int 5))) (mC (.int 2)))))
    (aG (bR 2 aI (mD (gG (aB (mOp gEq (ao 10) (mC (.str "row")))) (mC (.int 91)) (mC (.int 123)))))
    (aG (bR 4 aI (mDl (mDc (mD (ao 10)) (mDc (mD (b5 aJ)) (mDc (mD (gJ 3 aI)) (mDc (mD (ao 8)) mDn))))))
    (bR 3 aI (mD (b5 (ak (ao 10) (ak (ao 9) (ak (mC (.int 0)) (ak (mC (.int 0)) aJ))))))))))
    (aG (bq 11 (bp cA (ak (ao 0) (ak (ao 7) aJ))))
    (aG (dP 2 aI (mOp eT (ao 11) (mC (.int 1))))
    (aG (bR 3 aI (mD (b5 (ak (mOp eT (ao 11) (mC (.int 0))) (ak (ao 9) (ak (gJ 2 aI) (ak (mOp dZ (gJ 3 aI) (mC (.int 1))) aJ)))))))
    (aG (bq 5 (mOp eT (ao 11) (mC (.int 2))))
    (bf (fo (dE 4 aI) (aB (mOp gEq (de 4 (pIx 4 (pIx 4 aI (mUn hZ (mC (.int 1)))) (mC (.int 0)))) (mC (.str "fields")))))
    (aG (qj 3 (pIx 3 aI (mUn hZ (mC (.int 2)))) (mC (.int 3)) (mD (gJ 3 aI)))
    (bR 4 (pIx 4 (pIx 4 aI (mUn hZ (mC (.int 1)))) (mC (.int 1))) (mD (fh (ak (ao 8) (ak (ao 5) aJ))))))
    (bf (dE 4 aI)
    (bR 4 (pIx 4 (pIx 4 aI (mUn hZ (mC (.int 1)))) (mC (.int 1))) (mD (ao 5)))
    aS)))))))))
    aS)))
noncomputable def iT:ag -> OT:=
    (dE 4 aI)
noncomputable def kq:ag -> OS:=
    (iE 5 (jP cW [.t 2 aI,.t 3 aI,.t 4 aI]))
noncomputable def ni:ag -> OE:=
    (mUn nM (ao 0))
noncomputable def rZ:ag -> OS:=
    (qh 3 (qh 2 (bc (fh (ak (ao 2) (ak (uw (ao 3) [] ni) (ak (ao 5) aJ)))))))
noncomputable def nc:ag -> OS:=
    (aG (dP 2 aI (bp cF (ak (bp fk (ak (ao 0) (ak (mC (.int 61)) aJ))) aJ)))
    rZ)
noncomputable def rF:ag -> OS:=
    (aG (bX iT
    kq fuel)
    nc)
noncomputable def nK:ag -> OS:=
    (aG (tR 6 (ao 1)
    iR)
    rF)
noncomputable def rH:ag -> OS:=
    (aG (bq 5 (mC .non))
    nK)
noncomputable def rO:ag -> OS:=
    (aG (lx 4 (mD (b5 aJ)))
    rH)
noncomputable def rV:ag -> OS:=
    (aG (lx 3 (mD (b5 aJ)))
    rO)
noncomputable def qG:ag -> OS:=
    (aG (lx 2 (mD (b5 aJ)))
    rV)
noncomputable def ic:List PV->OE:=fnP 2 12 qG
noncomputable def vj:ag -> OS:=
    (Gj 0 aI "coming" pG (mD (b5 (ak (mC (.str "white")) (ak (mC (.str "value")) (ak (mC (.str "white")) aJ))))))
noncomputable def dj:List Sl->OI:=fnI 1 1 vj
noncomputable def kG:ag -> OS:=
    (bc (mUn (ib [(110,.tup ([117,108,108].map .int)),(116,.tup ([114,117,101].map .int)),(102,.tup ([97,108,115,101].map .int))]) (ao 0)))
noncomputable def fu:List PV->OE:=fnP 1 1 kG
noncomputable def uQ:ag -> OS:=
    (bc (nj gLe gLe (mC (.int 48)) (ao 0) (mC (.int 57))))
noncomputable def fE:List PV->OE:=fnP 1 1 uQ
noncomputable def ll:ag -> OS:=
    (bc (mC .non))
noncomputable def kT:ag -> OS:=
    (aG (bf (cU (bp fE (ak (ao 0) aJ)))
    (bc (b5 (ak (mC (.str "figures")) (ak (mC (.str "fraction")) (ak (mC (.str "exponent")) aJ)))))
    aS)
    ll)
noncomputable def nk:ag -> OS:=
    (aG (bf (aB (mOp gEq (ao 0) (mC (.int 48))))
    (bc (b5 (ak (mC (.str "fraction")) (ak (mC (.str "exponent")) aJ))))
    aS)
    kT)
noncomputable def dS:List PV->OE:=fnP 1 1 nk
noncomputable def cQ:ag -> OE:=
    (fh (ak (ao 0) (ak (ao 0) aJ)))
noncomputable def cR:ag -> OS:=
    (bc (bp dS (ak (ao 0) aJ)))
noncomputable def cO:ag -> OS:=
    (aG (bf (aB (mOp xU (ao 1) (mC .non)))
    (bc (vJ (ao 1) [] cQ))
    aS)
    cR)
noncomputable def cN:ag -> OS:=
    (aG (bq 1 (bp fu (ak (ao 0) aJ)))
    cO)
noncomputable def cS:ag -> OS:=
    (aG (bf (aB (mOp gEq (ao 0) (mC (.int 45))))
    (bc (b5 (ak (mC (.str "lead")) aJ)))
    aS)
    cN)
noncomputable def cP:ag -> OS:=
    (aG (bf (aB (mOp gEq (ao 0) (mC (.int 34))))
    (bc (b5 (ak (mC (.str "text")) aJ)))
    aS)
    cS)
noncomputable def cM:ag -> OS:=
    (aG (bf (aB (mOp gEq (ao 0) (mC (.int 123))))
    (bc (b5 (ak (mC (.str "white")) (ak (mC (.str "fields")) aJ))))
    aS)
    cP)
noncomputable def dG:ag -> OS:=
    (aG (bf (aB (mOp gEq (ao 0) (mC (.int 91))))
    (bc (b5 (ak (mC (.str "white")) (ak (mC (.str "row")) aJ))))
    aS)
    cM)
noncomputable def bQ:List PV->OE:=fnP 1 2 dG
noncomputable def bK:ag -> OS:=
    (bc (gG (aB (mOp gIn (ao 1) (fh (ak (mC (.int 43)) (ak (mC (.int 45)) aJ))))) (b5 aJ) (mC .non)))
noncomputable def bD:ag -> OS:=
    (aG (bf (aB (mOp gEq (ao 0) (mC (.str "exponent"))))
    (bc (gG (aB (mOp gIn (ao 1) (fh (ak (mC (.int 101)) (ak (mC (.int 69)) aJ))))) (b5 (ak (mC (.str "sign")) (ak (fh (ak (mC (.int 48)) (ak (mC (.int 57)) aJ))) (ak (mC (.str "figures")) aJ)))) (mC .non)))
    aS)
    bK)
noncomputable def bI:ag -> OS:=
    (aG (bf (aB (mOp gEq (ao 0) (mC (.str "fraction"))))
    (bc (gG (aB (mOp gEq (ao 1) (mC (.int 46)))) (b5 (ak (fh (ak (mC (.int 48)) (ak (mC (.int 57)) aJ))) (ak (mC (.str "figures")) aJ))) (mC .non)))
    aS)
    bD)
noncomputable def bH:ag -> OS:=
    (aG (bf (aB (mOp gEq (ao 0) (mC (.str "figures"))))
    (bc (gG (cU (bp fE (ak (ao 1) aJ))) (b5 (ak (mC (.str "figures")) aJ)) (mC .non)))
    aS)
    bI)
noncomputable def bZ:ag -> OS:=
    (aG (bf (aB (mOp gEq (ao 0) (mC (.str "lead"))))
    (bc (bp dS (ak (ao 1) aJ)))
    aS)
    bH)
noncomputable def aZ:List PV->OE:=fnP 2 2 bZ
noncomputable def rG:ag -> OS:=
    (bc (mC .non))
noncomputable def rX:ag -> OS:=
    (aG (bf (aB (nj gLe gLe (mC (.int 97)) (ao 0) (mC (.int 102))))
    (bc (mOp xp (ao 0) (mC (.int 87))))
    aS)
    rG)
noncomputable def rP:ag -> OS:=
    (aG (bf (aB (nj gLe gLe (mC (.int 65)) (ao 0) (mC (.int 70))))
    (bc (mOp xp (ao 0) (mC (.int 55))))
    aS)
    rX)
noncomputable def u3:ag -> OS:=
    (aG (bf (cU (bp fE (ak (ao 0) aJ)))
    (bc (mOp xp (ao 0) (mC (.int 48))))
    aS)
    rP)
noncomputable def fY:List PV->OE:=fnP 1 1 u3
noncomputable def jR:ag -> OS:=
    (bc (mC .non))
noncomputable def jB:ag -> OS:=
    (aG (bf (aB (mOp gLt (ao 0) (mC (.int 12))))
    (aG (bq 1 (b5 (ak (fh (ak (mC (.int 92)) (ak (mC (.int 92)) aJ))) (ak (fh (ak (mC (.int 117)) (ak (mC (.int 117)) aJ))) (ak (mC (.str "hex d")) (ak (mC (.str "hex c to f")) (ak (mC (.str "hex")) (ak (mC (.str "hex")) aJ))))))))
    (bc (mOp nB (b5 (ak (mC (.str "hex")) (ak (mC (.str "hex")) aJ))) (ao 1))))
    aS)
    jR)
noncomputable def kR:ag -> OS:=
    (aG (bf (aB (mOp gLt (ao 0) (mC (.int 8))))
    (bc (b5 (ak (mC (.str "hex")) (ak (mC (.str "hex")) aJ))))
    aS)
    jB)
noncomputable def dJ:List PV->OE:=fnP 1 2 kR
noncomputable def iH:ag -> OS:=
    (bc (mC (.tup ([128,191].map .int))))
noncomputable def iM:ag -> OS:=
    (aG (bf (aB (mOp gEq (ao 0) (mC (.int 237))))
    (bc (fh (ak (mC (.int 128)) (ak (mC (.int 159)) aJ))))
    aS)
    iH)
noncomputable def jw:ag -> OS:=
    (aG (bf (aB (mOp gEq (ao 0) (mC (.int 224))))
    (bc (fh (ak (mC (.int 160)) (ak (mC (.int 191)) aJ))))
    aS)
    iM)
noncomputable def cV:List PV->OE:=fnP 1 1 jw
noncomputable def i9:ag -> OS:=
    (bc (mC (.tup ([128,191].map .int))))
noncomputable def i5:ag -> OS:=
    (aG (bf (aB (mOp gEq (ao 0) (mC (.int 244))))
    (bc (fh (ak (mC (.int 128)) (ak (mC (.int 143)) aJ))))
    aS)
    i9)
noncomputable def ke:ag -> OS:=
    (aG (bf (aB (mOp gEq (ao 0) (mC (.int 240))))
    (bc (fh (ak (mC (.int 144)) (ak (mC (.int 191)) aJ))))
    aS)
    i5)
noncomputable def dw:List PV->OE:=fnP 1 1 ke
noncomputable def lN:ag -> OS:=
    (bc (mC .non))
noncomputable def lM:ag -> OS:=
    (aG (bf (aB (nj gLe gLt (mC (.int 240)) (ao 0) (mC (.int 245))))
    (bc (b5 (ak (bp dw (ak (ao 0) aJ)) (ak (mC (.tup ([128,191].map .int))) (ak (mC (.tup ([128,191].map .int))) aJ)))))
    aS)
    lN)
noncomputable def lQ:ag -> OS:=
    (aG (bf (aB (nj gLe gLt (mC (.int 224)) (ao 0) (mC (.int 240))))
    (bc (b5 (ak (bp cV (ak (ao 0) aJ)) (ak (mC (.tup ([128,191].map .int))) aJ))))
    aS)
    lM)
noncomputable def lL:ag -> OS:=
    (aG (bf (aB (nj gLe gLt (mC (.int 194)) (ao 0) (mC (.int 224))))
    (bc (b5 (ak (mC (.tup ([128,191].map .int))) aJ)))
    aS)
    lQ)
noncomputable def qT:ag -> OS:=
    (aG (bf (aB (nj gLe gLt (mC (.int 0)) (ao 0) (mC (.int 128))))
    (bc (b5 aJ))
    aS)
    lL)
noncomputable def jy:List PV->OE:=fnP 1 1 qT
noncomputable def ee:ag -> OS:=
    (bc (mOp nB (ao 1) (b5 (ak (mC (.str "text")) aJ))))
noncomputable def eB:ag -> OS:=
    (aG (bf (mL (aB (mOp gLt (ao 0) (mC (.int 32)))) (aB (mOp A9 (ao 1) (mC .non))))
    (bc (mC .non))
    aS)
    ee)
noncomputable def eA:ag -> OS:=
    (aG (bq 1 (bp jy (ak (ao 0) aJ)))
    eB)
noncomputable def eh:ag -> OS:=
    (aG (bf (aB (mOp gEq (ao 0) (mC (.int 92))))
    (bc (b5 (ak (mC (.str "escape")) (ak (mC (.str "text")) aJ))))
    aS)
    eA)
noncomputable def eZ:ag -> OS:=
    (aG (bf (aB (mOp gEq (ao 0) (mC (.int 34))))
    (bc (b5 aJ))
    aS)
    eh)
noncomputable def b4:List PV->OE:=fnP 1 2 eZ
noncomputable def da:ag -> OS:=
    (bc (mUn (ib [(34,.int 34),(92,.int 92),(47,.int 47),(98,.int 8),(102,.int 12),(110,.int 10),(114,.int 13),(116,.int 9)]) (ao 0)))
noncomputable def bS:List PV->OE:=fnP 1 1 da
noncomputable def ja:ag -> OS:=
    (aG (bf (aB (mOp gEq (ao 0) (mC (.int 117))))
    (bc (b5 (ak (mC (.str "code")) aJ)))
    aS)
    (bc (gG (aB (mOp A9 (bp bS (ak (ao 0) aJ)) (mC .non))) (mC .non) (b5 aJ))))
noncomputable def cK:List PV->OE:=fnP 1 1 ja
noncomputable def dn:ag -> OS:=
    (bc (bp dJ (ak (ao 2) aJ)))
noncomputable def dr:ag -> OS:=
    (aG (bf (aB (mOp gEq (ao 0) (mC (.str "code"))))
    (bc (gG (aB (mOp gEq (ao 2) (mC (.int 13)))) (b5 (ak (mC (.str "code d")) aJ)) (b5 (ak (mC (.str "hex")) (ak (mC (.str "hex")) (ak (mC (.str "hex")) aJ))))))
    aS)
    dn)
noncomputable def dm:ag -> OS:=
    (aG (bf (aB (mOp A9 (ao 2) (mC .non)))
    (bc (mC .non))
    aS)
    dr)
noncomputable def dq:ag -> OS:=
    (aG (bq 2 (bp fY (ak (ao 1) aJ)))
    dm)
noncomputable def du:ag -> OS:=
    (aG (bf (aB (mOp gEq (ao 0) (mC (.str "escape"))))
    (bc (bp cK (ak (ao 1) aJ)))
    aS)
    dq)
noncomputable def dR:ag -> OS:=
    (aG (bf (aB (mOp gEq (ao 0) (mC (.str "text"))))
    (bc (bp b4 (ak (ao 1) aJ)))
    aS)
    du)
noncomputable def bN:List PV->OE:=fnP 2 3 dR
noncomputable def ia:ag -> OS:=
    (bc (b5 aJ))
noncomputable def ie:ag -> OS:=
    (aG (bf (aB (mOp gEq (ao 0) (mC (.str "hex c to f"))))
    (bc (gG (aB (mOp gGe (ao 2) (mC (.int 12)))) (b5 aJ) (mC .non)))
    aS)
    ia)
noncomputable def gV:ag -> OS:=
    (aG (bf (aB (mOp gEq (ao 0) (mC (.str "hex d"))))
    (bc (gG (aB (mOp gEq (ao 2) (mC (.int 13)))) (b5 aJ) (mC .non)))
    aS)
    ie)
noncomputable def hE:ag -> OS:=
    (aG (bf (aB (mOp A9 (ao 2) (mC .non)))
    (bc (mC .non))
    aS)
    gV)
noncomputable def jF:ag -> OS:=
    (aG (bq 2 (bp fY (ak (ao 1) aJ)))
    hE)
noncomputable def dD:List PV->OE:=fnP 2 3 jF
noncomputable def fD:ag -> OS:=
    (bc (gG (aB (mOp A9 (ao 1) (mC .non))) (mC .non) (mOp nB (ao 1) (b5 (ak (mC (.str "white")) (ak (mC (.str "more row")) aJ))))))
noncomputable def ft:ag -> OS:=
    (aG (bq 1 (bp bQ (ak (ao 0) aJ)))
    fD)
noncomputable def gq:ag -> OS:=
    (aG (bf (aB (mOp gEq (ao 0) (mC (.int 93))))
    (bc (b5 aJ))
    aS)
    ft)
noncomputable def cg:List PV->OE:=fnP 1 2 gq
noncomputable def rR:ag -> OS:=
    (bc (b5 (ak (mC (.str "white")) (ak (fh (ak (mC (.int 58)) (ak (mC (.int 58)) aJ))) (ak (mC (.str "white")) (ak (mC (.str "value")) (ak (mC (.str "white")) (ak (mC (.str "more fields")) aJ))))))))
noncomputable def eP:List PV->OE:=fnP 0 0 rR
noncomputable def gQ:ag -> OS:=
    (aG (bf (aB (mOp gEq (ao 0) (mC (.int 125))))
    (bc (b5 aJ))
    aS)
    (bc (gG (aB (mOp gEq (ao 0) (mC (.int 34)))) (mOp nB (b5 (ak (mC (.str "text")) aJ)) (bp eP aJ)) (mC .non))))
noncomputable def b6:List PV->OE:=fnP 1 1 gQ
noncomputable def cq:ag -> OS:=
    (bc (gG (aB (mOp gEq (ao 1) (mC (.int 125)))) (b5 aJ) (mC .non)))
noncomputable def cf:ag -> OS:=
    (aG (bf (aB (mOp gEq (ao 1) (mC (.int 44))))
    (bc (mOp nB (b5 (ak (mC (.str "white")) (ak (mC (.str "name")) aJ))) (bp eP aJ)))
    aS)
    cq)
noncomputable def cw:ag -> OS:=
    (aG (bf (aB (mOp gEq (ao 0) (mC (.str "more row"))))
    (aG (bf (aB (mOp gEq (ao 1) (mC (.int 44))))
    (bc (b5 (ak (mC (.str "white")) (ak (mC (.str "value")) (ak (mC (.str "white")) (ak (mC (.str "more row")) aJ))))))
    aS)
    (bc (gG (aB (mOp gEq (ao 1) (mC (.int 93)))) (b5 aJ) (mC .non))))
    aS)
    cf)
noncomputable def cu:ag -> OS:=
    (aG (bf (aB (mOp gEq (ao 0) (mC (.str "fields"))))
    (bc (bp b6 (ak (ao 1) aJ)))
    aS)
    cw)
noncomputable def cJ:ag -> OS:=
    (aG (bf (aB (mOp gEq (ao 0) (mC (.str "row"))))
    (bc (bp cg (ak (ao 1) aJ)))
    aS)
    cu)
noncomputable def bb:List PV->OE:=fnP 2 2 cJ
noncomputable def wD:ag -> OS:=
    (bc (mOp gIn (ao 0) (mC (.tup ([9,10,13,32].map .int)))))
noncomputable def fH:List PV->OE:=fnP 1 1 wD
noncomputable def wO:ag -> OS:=
    (bc (bp bQ (ak (ao 1) aJ)))
noncomputable def vZ:ag -> OS:=
    (aG (bf (aB (mOp gEq (ao 0) (mC (.str "name"))))
    (bc (gG (aB (mOp gEq (ao 1) (mC (.int 34)))) (b5 (ak (mC (.str "text")) aJ)) (mC .non)))
    aS)
    wO)
noncomputable def wH:ag -> OS:=
    (aG (bf (aB (mOp gEq (ao 0) (mC (.str "white"))))
    (bc (gG (cU (bp fH (ak (ao 1) aJ))) (b5 (ak (mC (.str "white")) aJ)) (mC .non)))
    aS)
    vZ)
noncomputable def wL:ag -> OS:=
    (aG (bf (aB (mOp gIn (ao 0) (mC (.tup [.str "row",.str "more row",.str "fields",.str "more fields"]))))
    (bc (bp bb (ak (ao 0) (ak (ao 1) aJ))))
    aS)
    wH)
noncomputable def wt:ag -> OS:=
    (aG (bf (aB (mOp gIn (ao 0) (fh (ak (mC (.str "hex")) (ak (mC (.str "hex d")) (ak (mC (.str "hex c to f")) aJ))))))
    (bc (bp dD (ak (ao 0) (ak (ao 1) aJ))))
    aS)
    wL)
noncomputable def xh:ag -> OS:=
    (aG (bf (aB (mOp gIn (ao 0) (fh (ak (mC (.str "text")) (ak (mC (.str "escape")) (ak (mC (.str "code")) (ak (mC (.str "code d")) aJ)))))))
    (bc (bp bN (ak (ao 0) (ak (ao 1) aJ))))
    aS)
    wt)
noncomputable def wF:ag -> OS:=
    (aG (bf (aB (mOp gIn (ao 0) (fh (ak (mC (.str "lead")) (ak (mC (.str "figures")) (ak (mC (.str "fraction")) (ak (mC (.str "exponent")) (ak (mC (.str "sign")) aJ))))))))
    (bc (bp aZ (ak (ao 0) (ak (ao 1) aJ))))
    aS)
    xh)
noncomputable def wK:ag -> OS:=
    (aG (bf (cU (mIs "tuple" (ao 0)))
    (bc (gG (aB (nj gLe gLe (mOp eT (ao 0) (mC (.int 0))) (ao 1) (mOp eT (ao 0) (mC (.int 1))))) (b5 aJ) (mC .non)))
    aS)
    wF)
noncomputable def kJ:List PV->OE:=fnP 2 2 wK
noncomputable def jO:ag -> OE:=
    (ao 0)
noncomputable def gT:ag -> OT:=
    (aB (mOp gIn (ao 0) (mC (.tup [.str "row",.str "more row",.str "fields",.str "more fields"]))))
noncomputable def pD:ag -> OS:=
    (bc (mUn mM (wB (de 0 (pFd 0 aI "coming" pG)) [] gT jO)))
noncomputable def cL:List Sl->OI:=fnI 1 1 pD
noncomputable def iD:ag -> OT:=
    (dE 0 (pFd 0 aI "coming" pG))
noncomputable def iq:ag -> OS:=
    (aG (iE 2 (mR 0 (pFd 0 aI "coming" pG)))
    (aG (bq 3 (bp kJ (ak (ao 2) (ak (ao 1) aJ))))
    (aG (bf (aB (mOp xU (ao 3) (mC .non)))
    (aG (dP 0 (pFd 0 aI "coming" pG) (HB (ao 3) (mUn hZ (mC (.int 1)))))
    (bc (mOp gLe (ph "Walk" "brackets" cL [.b 0 aI]) (mC (.int 64)))))
    aS)
    (bf (aB (mOp oB (ao 2) (mC (.tup [.str "white",.str "figures",.str "fraction",.str "exponent",.str "sign"]))))
    (bc (mC (.bl false)))
    aS))))
noncomputable def jD:ag -> OS:=
    (aG (bX iD
    iq fuel)
    (bc (mC (.bl false))))
noncomputable def dW:List Sl->OI:=fnI 2 4 jD
noncomputable def kx:ag -> OS:=
    (HZ true (pL "Walk" "goes_on" dW [.t 0 aI,.e (ao 3)])
    (gz 2)
    aS)
noncomputable def mV:ag -> OS:=
    (aG (CC 2 3 (ao 1)
    kx)
    (bc (mUn mM (ao 1))))
noncomputable def fZ:List Sl->OI:=fnI 2 4 mV
noncomputable def jt:ag -> OE:=
    (mOp gIn (ao 0) (mC (.tup [.str "white",.str "figures",.str "fraction",.str "exponent",.str "sign"])))
noncomputable def pB:ag -> OS:=
    (bc (mUn Hf (uw (de 0 (pFd 0 aI "coming" pG)) [] jt)))
noncomputable def dk:List Sl->OI:=fnI 1 1 pB
noncomputable def uu:ag -> OS:=
    (gz 2)
noncomputable def x8:ag -> OS:=
    (aG (bf (fo (aB (mOp gEq (ao 2) (mUn mM (ao 0)))) (cU (ph "Walk" "is_whole" dk [.b 1 aI])))
    (bc (mC .non))
    aS)
    uu)
noncomputable def xR:ag -> OS:=
    (aG (iE 2 (pL "Walk" "take" fZ [.t 1 aI,.e (ao 0)]))
    x8)
noncomputable def Cw:ag -> OS:=
    (aG (lx 1 (xT "Walk" dj))
    xR)
noncomputable def pj:List PV->OE:=fnP 1 3 Cw
noncomputable def mw:ag -> OS:=
    (aG (bq 1 (bp pj (ak (ao 0) aJ)))
    (bf (aB (mOp xU (ao 1) (mC .non)))
    B9
    aS))
noncomputable def dU:List PV->OE:=fnP 1 2 mw
noncomputable def kO:ag -> OS:=
    (bc (fh (ak (mOp eT (ao 2) (mC (.int 0))) (ak (mOp eT (ao 2) (mC (.int 1))) (ak (mOp eT (ao 2) (mC (.int 2))) (ak (mOp eT (mOp gN (ao 0) (mOp dZ (ao 1) (mC (.int 1)))) (mC (.int 3))) aJ))))))
noncomputable def lh:ag -> OS:=
    (aG (bf (aB (mOp gNe (mOp eT (ao 2) (mC (.int 0))) (mC (.str "name"))))
    (gz 2)
    aS)
    kO)
noncomputable def nI:ag -> OS:=
    (aG (bq 2 (mOp gN (ao 0) (ao 1)))
    lh)
noncomputable def eR:List PV->OE:=fnP 2 3 nI
noncomputable def fB:ag -> OT:=
    (aB (mOp gNe (mOp gN (ao 0) (ao 2)) (mC (.int 34))))
noncomputable def iC:ag -> OS:=
    (xr 2 dZ (gG (aB (mOp gEq (mOp gN (ao 0) (ao 2)) (mC (.int 92)))) (mC (.int 2)) (mC (.int 1))))
noncomputable def tS:ag -> OS:=
    (bc (mOp dZ (ao 2) (mC (.int 1))))
noncomputable def tw:ag -> OS:=
    (aG (bX fB
    iC fuel)
    tS)
noncomputable def v5:ag -> OS:=
    (aG (bq 2 (mOp dZ (ao 1) (mC (.int 1))))
    tw)
noncomputable def i7:List PV->OE:=fnP 2 3 v5
noncomputable def dB:ag -> OT:=
    (fo (aB (mOp gLt (ao 2) (mUn mM (ao 0)))) (fo (pE (cU (bp fH (ak (mOp gN (ao 0) (ao 2)) aJ)))) (aB (mOp oB (mOp gN (ao 0) (ao 2)) (fh (ak (mC (.int 44)) (ak (mC (.int 93)) (ak (mC (.int 125)) aJ))))))))
noncomputable def kr:ag -> OS:=
    (xr 2 dZ (mC (.int 1)))
noncomputable def rY:ag -> OS:=
    (gz 2)
noncomputable def rD:ag -> OS:=
    (aG (bX dB
    kr fuel)
    rY)
noncomputable def uZ:ag -> OS:=
    (aG (bq 2 (ao 1))
    rD)
noncomputable def ig:List PV->OE:=fnP 2 3 uZ
noncomputable def dY:ag -> OT:=
    (fo (aB (mOp gLt (ao 1) (mUn mM (ao 0)))) (cU (bp fH (ak (mOp gN (ao 0) (ao 1)) aJ))))
noncomputable def mN:ag -> OS:=
    (xr 1 dZ (mC (.int 1)))
noncomputable def nX:ag -> OS:=
    (aG (bX dY
    mN fuel)
    (bc (xE (mOp gLt (ao 1) (mUn mM (ao 0))) (mOp gEq (mOp gN (ao 0) (ao 1)) (mC (.int 58))))))
noncomputable def fm:List PV->OE:=fnP 2 2 nX
noncomputable def nV:ag -> OS:=
    (bc (fh (ak (gG (cU (bp fm (ak (ao 0) (ak (ao 4) aJ)))) (mC (.str "name")) (mC (.str "text"))) (ak (ao 1) (ak (ao 4) (ak (mOp dZ (ao 2) (mC (.int 1))) aJ))))))
noncomputable def nY:ag -> OS:=
    (aG (bq 4 (bp i7 (ak (ao 0) (ak (ao 1) aJ))))
    nV)
noncomputable def nO:ag -> OS:=
    (aG (bf (aB (mOp gNe (ao 3) (mC (.str "text"))))
    (bc (fh (ak (ao 3) (ak (ao 1) (ak (bp ig (ak (ao 0) (ak (ao 1) aJ))) (ak (mOp dZ (ao 2) (mC (.int 1))) aJ))))))
    aS)
    nY)
noncomputable def uL:ag -> OS:=
    (aG (bq 3 (yW [(34,.str "text"),(91,.str "row"),(102,.str "false"),(110,.str "null"),(116,.str "true"),(123,.str "fields")] (mOp gN (ao 0) (ao 1)) (mC (.str "number"))))
    nO)
noncomputable def je:List PV->OE:=fnP 3 5 uL
noncomputable def gL:ag -> OT:=
    (aB (mOp gLt (ao 3) (mUn mM (ao 0))))
noncomputable def cB:ag -> OS:=
    (aG (bq 4 (mOp gN (ao 0) (ao 3)))
    (bf (aB (mOp gIn (ao 4) (fh (ak (mC (.int 91)) (ak (mC (.int 123)) aJ)))))
    (aG (bR 2 aI (mD (mUn mM (ao 1))))
    (aG (eE 1 (fh (ak (mUn (Cf [(34,.str "text"),(91,.str "row"),(102,.str "false"),(110,.str "null"),(116,.str "true"),(123,.str "fields")]) (ao 4)) (ak (ao 3) aJ))))
    (xr 3 dZ (mC (.int 1)))))
    (bf (aB (mOp gIn (ao 4) (fh (ak (mC (.int 93)) (ak (mC (.int 125)) aJ)))))
    (aG (xr 3 dZ (mC (.int 1)))
    (aG (iE 5 (mR 2 aI))
    (G9 1 (ao 5) (fh (ak (mOp eT (mOp gN (ao 1) (ao 5)) (mC (.int 0))) (ak (mOp eT (mOp gN (ao 1) (ao 5)) (mC (.int 1))) (ak (ao 3) (ak (mUn mM (ao 1)) aJ))))))))
    (bf (mL (cU (bp fH (ak (ao 4) aJ))) (aB (mOp gIn (ao 4) (fh (ak (mC (.int 44)) (ak (mC (.int 58)) aJ))))))
    (xr 3 dZ (mC (.int 1)))
    (aG (eE 1 (bp je (ak (ao 0) (ak (ao 3) (ak (mUn mM (ao 1)) aJ)))))
    (bq 3 (mOp eT (mOp gN (ao 1) (mUn hZ (mC (.int 1)))) (mC (.int 2)))))))))
noncomputable def uc:ag -> OE:=
    (bp eR (ak (ao 0) (ak (ao 1) aJ)))
noncomputable def uK:ag -> OS:=
    (iz 1 (bc (vN (mUn mM (ao 1)) [1] uc)))
noncomputable def xv:ag -> OS:=
    (aG (bX gL
    cB fuel)
    uK)
noncomputable def x6:ag -> OS:=
    (aG (bq 3 (mC (.int 0)))
    xv)
noncomputable def ux:ag -> OS:=
    (aG (lx 2 (mD (b5 aJ)))
    x6)
noncomputable def yi:ag -> OS:=
    (aG (bq 1 (b5 aJ))
    ux)
noncomputable def Cq:ag -> OS:=
    (aG (ET (bp dU (ak (ao 0) aJ)))
    yi)
noncomputable def mU:List PV->OE:=fnP 1 6 Cq
noncomputable def uU:ag -> OS:=
    (bc (xE (mIs "int" (ao 0)) (F3 (mIs "bool" (ao 0)))))
noncomputable def fz:List PV->OE:=fnP 1 1 uU
noncomputable def vq:ag -> OS:=
    (aG (bq 5 (mOp gN (ao 3) (ao 4)))
    (aG (bf (mL (pE (cU (mIs "tuple" (ao 5)))) (mL (aB (mOp gNe (mUn mM (ao 5)) (mC (.int 4)))) (pE (cU (mIs "str" (mOp eT (ao 5) (mC (.int 0))))))))
    (bc (mC (.bl false)))
    aS)
    (bf (mL (pE (cU (bp fz (ak (mOp eT (ao 5) (mC (.int 1))) aJ)))) (mL (pE (cU (bp fz (ak (mOp eT (ao 5) (mC (.int 2))) aJ)))) (mL (pE (cU (bp fz (ak (mOp eT (ao 5) (mC (.int 3))) aJ)))) (aB (mOp zX (ao 5) (mOp gN (mOp eT (ao 1) (mC (.int 1))) (ao 4)))))))
    (bc (mC (.bl false)))
    aS)))
noncomputable def CM:ag -> OS:=
    (bc (mC (.bl true)))
noncomputable def CH:ag -> OS:=
    (aG (tR 4 (mUn mM (ao 3))
    vq)
    CM)
noncomputable def CP:ag -> OS:=
    (aG (bf (mL (pE (cU (mIs "list" (ao 3)))) (mL (aB (mOp zX (ao 2) (mOp eT (ao 1) (mC (.int 0))))) (aB (mOp gNe (mUn mM (ao 3)) (mUn mM (mOp eT (ao 1) (mC (.int 1))))))))
    (bc (mC (.bl false)))
    aS)
    CH)
noncomputable def CN:ag -> OS:=
    (aG (iz 2 (bq 3 (bp mU (ak (ao 2) aJ))))
    CP)
noncomputable def CK:ag -> OS:=
    (aG (bq 2 (mUn tV (mOp eT (ao 1) (mC (.int 0)))))
    CN)
noncomputable def Jt:ag -> OS:=
    (aG (bq 1 (bp ic (ak (ao 0) (ak (mOp dZ (mC (.int 1)) (mOp cI (bp fk (ak (ao 0) (ak (mC (.int 62)) aJ))) (mC (.int 11)))) aJ))))
    CK)
noncomputable def xN:List PV->OE:=fnP 1 6 Jt
theorem oY(ns:List Int)(k:Int):i8 [.lst (ns.map .int),.int k]=.ok (.sh (.int (PG.cell ns k))):=by
 unfold i8 wq PG.cell
 cases ns with
 |nil=>simp
 | cons n r=>
   have hp:(0:Int)<(r.length:Int)+1:=by omega
   have hm:0<=k%((r.length:Int)+1):=Int.emod_nonneg _ (by omega)
   have hm2:k%((r.length:Int)+1)<(r.length:Int)+1:=Int.emod_lt_of_pos _ hp
   have hi:(k%((r.length:Int)+1)).toNat<(n ::r).length:=by rw[List.length_cons];omega
   have ha:atP (PV.int n ::r.map .int) (k%((r.length:Int)+1))=some (.int ((n ::r).getD (k%((r.length:Int)+1)).toNat 0)):=by
    rw[Gq _ _ hm]
    have:(PV.int n ::r.map .int)=(n ::r).map .int:=rfl
    rw[this,List.getElem?_map,List.getElem?_eq_getElem hi,List.getD_eq_getElem?_getD,List.getElem?_eq_getElem hi];rfl
   simp[hp,ha]
theorem eS(ns:List Int)(k:Int):fk [.lst (ns.map .int),.int k]=.ok (.sh (.int (PG.mix ns k))):=by
 unfold PG.mix;simp[va,u6,xw,fk,oY]
theorem jr(n:Int):fz [.int n]=.ok (.sh (.bl true)):=by
 unfold fz uU;simp
theorem m7(n:Int):dI [.int n]=.ok (.sh (.int (PG.point n))):=by
 unfold PG.point
 have ha:atP [PV.int 34,.int 92,.int 47,.int 8,.int 12,.int 10,.int 13,.int 9,.int 0,.int 31,.int 127] (n/8%11)=some (.int (PG.menu.getD (n/8%11).toNat 0)):=by
  have h0:0<=n/8%11:=by omega
  have hi:(n/8%11).toNat<PG.menu.length:=by show _<11;omega
  rw[Gq _ _ h0]
  show(PG.menu.map PV.int)[_]?=_
  rw[List.getElem?_map,List.getD_eq_getElem?_getD,List.getElem?_eq_getElem hi];rfl
 by_cases h1:n%8<2
 . simp[fN,fO,fP,fI,fG,fM,fJ,gY,dI,h1]
 . by_cases h2:n%8<4
   . simp[fN,fO,fP,fI,fG,fM,fJ,gY,dI,h1,h2,ha]
   . by_cases h3:n%8=4
     . simp[fN,fO,fP,fI,fG,fM,fJ,gY,dI,h3]
     . by_cases h4:n%8=5
       . simp[fN,fO,fP,fI,fG,fM,fJ,gY,dI,h4]
       . by_cases h5:n%8=6
         . simp[fN,fO,fP,fI,fG,fM,fJ,gY,dI,h5]
         . simp[fN,fO,fP,fI,fG,fM,fJ,gY,dI,h1,h2,h3,h4,h5]
theorem ik(ns:List Int)(k:Int):eM [.lst (ns.map .int),.int k]=.ok (.fr ((PG.points ns k).map .int)):=by
 have hs:=Ap ns k;have hm:=BA ns k
 have el:∀ m:Nat,dc mi [some (.sh (.lst (ns.map .int))),some (.sh (.int k))] (cT m) =
   .ok ((List.range m).map fun j:Nat=>.int (PG.point (PG.mix ns (k+1+(j:Int))))):=fun m=>by
  unfold cT
  refine kb _ fun j _=>?_
  simp[mi,eS,m7]
 have hp:(PG.points ns k).map PV.int=(List.range (wz ns k).toNat).map fun j:Nat=>.int (PG.point (PG.mix ns (k+1+(j:Int)))):=by
  unfold PG.points;rw[List.map_map];rfl
 rw[hp]
 have hl:(wz ns k).toNat<=lim:=fj (by omega)
 unfold wz at hs hl ⊢
 by_cases h3:PG.mix ns k/5%8=3
 . rw[if_pos h3]at hs hl ⊢
   have h1:-4611686018427387904<=PG.mix ns k/40%14 /\ PG.mix ns k/40%14<4611686018427387904:=by omega
   simp[eM,oi,mH,lU,lR,eS,h3,dv,el,h1];unfold lim;omega
 . rw[if_neg h3]at hs hl ⊢
   have h1:-4611686018427387904<=PG.mix ns k%5 /\ PG.mix ns k%5<4611686018427387904:=by omega
   simp[eM,oi,mH,lU,lR,eS,h3,dv,el,h1];unfold lim;omega
theorem mQ(n:Int)(h:nu n=true):eQ [.int n]=.ok (.fr ((ba n).map .int)):=by
 have hn:0<=n:=by
  unfold nu at h;simp only[Bool.or_eq_true,Bool.and_eq_true,decide_eq_true_eq]at h;omega
 unfold ba
 by_cases h1:n<128
 . simp[iS,iW,iY,iV,iU,kL,eQ,h1]
 . by_cases h2:n<2048
   . have g2:¬ 2048<=n:=by omega
     have g3:¬ 65536<=n:=by omega
     simp[iS,iW,iY,iV,iU,kL,eQ,h1,h2,g2,g3,cT,List.range_succ]
   . by_cases h3:n<65536
     . have g2:2048<=n:=by omega
       have g3:¬ 65536<=n:=by omega
       have e1:n/64/64=n/4096:=by omega
       simp[iS,iW,iY,iV,iU,kL,eQ,h1,h2,h3,g2,g3,cT,List.range_succ,e1]
     . have g2:2048<=n:=by omega
       have g3:65536<=n:=by omega
       have e1:n/64/64=n/4096:=by omega
       have e2:n/4096/64=n/262144:=by omega
       simp[iS,iW,iY,iV,iU,kL,eQ,h1,h2,h3,g2,g3,cT,List.range_succ,e1,e2]
theorem cj(b:Int):fH [.int b]=.ok (.sh (.bl (wht b))):=by
 simp -implicitDefEqProofs [wD,fH,gIn,kA,dQ,fg,wht];simp[Bool.beq_eq_decide_eq]
theorem gc(b:Int):fE [.int b]=.ok (.sh (.bl (fig b))):=by
 by_cases h:48<=b<;>simp -implicitDefEqProofs [uQ,fE,fig,h]
theorem jl(b:Int):fY [.int b]=.ok (.sh (match eV b with|some w=>.int w|none=>.non)):=by
 unfold eV
 by_cases h1:48<=b<;>by_cases h2:b<=57<;>by_cases h3:65<=b<;>by_cases h4:b<=70<;>by_cases h5:97<=b<;>by_cases h6:b<=102<;>first|omega|simp -implicitDefEqProofs [rG,rX,rP,u3,fY,gc,fig,h1,h2,h3,h4,h5,h6]
theorem EW(b:Int):jy [.int b]=.ok (match tls b with|some l=>.fr (l.map bB)|none=>.sh .non):=by
 have h3:cV [.int b]=.ok (.sh (bB (if b=224 then .sp 160 191 else if b=237 then .sp 128 159 else .sp 128 191))):=by
  by_cases h1:b=224
  . simp[iH,iM,jw,cV,h1,bB]
  . by_cases h2:b=237<;>simp[iH,iM,jw,cV,h1,h2,bB]
 have h4:dw [.int b]=.ok (.sh (bB (if b=240 then .sp 144 191 else if b=244 then .sp 128 143 else .sp 128 191))):=by
  by_cases h1:b=240
  . simp[i9,i5,ke,dw,h1,bB]
  . by_cases h2:b=244<;>simp[i9,i5,ke,dw,h1,h2,bB]
 unfold tls
 by_cases h0:0<=b /\ b<128
 . simp[lN,lM,lQ,lL,qT,jy,h0.1,h0.2]
 . by_cases ha:194<=b /\ b<224
   . have:¬ b<128:=by omega
     have z:0<=b:=by omega
     simp[lN,lM,lQ,lL,qT,jy,ha.1,ha.2,z,this,bB]
   . by_cases hb:224<=b /\ b<240
     . have z1:¬ b<128:=by omega
       have z2:¬ b<224:=by omega
       have z:0<=b:=by omega
       have z3:194<=b:=by omega
       simp[lN,lM,lQ,lL,qT,jy,hb.1,hb.2,z,z1,z2,z3,h3];simp[bB]
     . by_cases hc:240<=b /\ b<245
       . have z1:¬ b<128:=by omega
         have z2:¬ b<224:=by omega
         have z:0<=b:=by omega
         have z3:194<=b:=by omega
         have z4:224<=b:=by omega
         have z5:¬ b<240:=by omega
         simp[lN,lM,lQ,lL,qT,jy,hc.1,hc.2,z,z1,z2,z3,z4,z5,h4];simp[bB]
       . simp only[h0,ha,hb,hc,if_false]
         by_cases g0:0<=b<;>by_cases g1:b<128<;>by_cases g2:194<=b<;>by_cases g3:b<224<;>by_cases g4:224<=b<;>by_cases g5:b<240<;>by_cases g6:240<=b<;>by_cases g7:b<245<;>first|omega|simp[lN,lM,lQ,lL,qT,jy,g0,g1,g2,g3,g4,g5,g6,g7]
noncomputable def rI:Option (List PG.It)->RV
 |some l=>.fr (l.map bB)
 |none=>.sh .non
theorem gK(b:Int):dS [.int b]=.ok (rI (nz b)):=by
 unfold nz
 by_cases h0:b=48
 . simp[ll,kT,nk,dS,h0,rI,bB]
 . by_cases h1:48<=b<;>by_cases h2:b<=57<;>simp[ll,kT,nk,dS,h0,h1,h2,gc,fig,rI,bB]
theorem fT(b:Int):bQ [.int b]=.ok (rI (lA b)):=by
 unfold lA
 by_cases h1:b=91
 . simp[cQ,cR,cO,cN,cS,cP,cM,dG,bQ,h1,rI,bB]
 by_cases h2:b=123
 . simp[cQ,cR,cO,cN,cS,cP,cM,dG,bQ,h2,rI,bB]
 by_cases h3:b=34
 . simp[cQ,cR,cO,cN,cS,cP,cM,dG,bQ,h3,rI,bB]
 by_cases h4:b=45
 . simp[cQ,cR,cO,cN,cS,cP,cM,dG,bQ,h4,rI,bB]
 by_cases h5:b=110
 . simp[cQ,cR,cO,cN,cS,cP,cM,dG,bQ,h5,rI,bB,kG,fu,ib,cG,vJ,dc,dv,List.lookup]
 by_cases h6:b=116
 . simp[cQ,cR,cO,cN,cS,cP,cM,dG,bQ,h6,rI,bB,kG,fu,ib,cG,vJ,dc,dv,List.lookup]
 by_cases h7:b=102
 . simp[cQ,cR,cO,cN,cS,cP,cM,dG,bQ,h7,rI,bB,kG,fu,ib,cG,vJ,dc,dv,List.lookup]
 have z5:(b==110)=false:=by simpa using h5
 have z6:(b==116)=false:=by simpa using h6
 have z7:(b==102)=false:=by simpa using h7
 simp[cQ,cR,cO,cN,cS,cP,cM,dG,bQ,h1,h2,h3,h4,h5,h6,h7,z5,z6,z7,kG,fu,ib,cG,List.lookup,gK]
 cases nz b<;>simp[rI]
theorem dC:eP []=.ok (.fr (tL.map bB)):=by
 simp[rR,eP,tL,bB]
theorem nP(it:PG.It)(b:Int)(h:it=.lead \/ it=.figures \/ it=.fraction \/ it=.exponent \/ it=.sign):aZ [bB it,.int b]=.ok (rI (bh it b)):=by
 rcases h with rfl|rfl|rfl|rfl|rfl
 . simp[bK,bD,bI,bH,bZ,aZ,bB,gEq,eqS,aH,gK]
   cases e:nz b<;>simp[bh,rI,e]
 . by_cases h1:48<=b<;>by_cases h2:b<=57<;>simp[bK,bD,bI,bH,bZ,aZ,bB,gEq,eqS,aH,gc,fig,bh,rI,h1,h2]
 . by_cases h1:b=46<;>simp[bK,bD,bI,bH,bZ,aZ,bB,gEq,eqS,aH,bh,rI,h1]
 . by_cases h1:b=101
   . simp[bK,bD,bI,bH,bZ,aZ,bB,gEq,eqS,aH,bh,rI,h1,gIn,kA,dQ,fg]
   . by_cases h2:b=69
     . simp[bK,bD,bI,bH,bZ,aZ,bB,gEq,eqS,aH,bh,rI,h2,gIn,kA,dQ,fg]
     . have z1:¬ 101=b:=fun z=>h1 z.symm
       have z2:¬ 69=b:=fun z=>h2 z.symm
       simp[bK,bD,bI,bH,bZ,aZ,bB,gEq,eqS,aH,bh,rI,h1,h2,z1,z2,gIn,kA,dQ,fg]
 . by_cases h1:b=43
   . simp[bK,bD,bI,bH,bZ,aZ,bB,gEq,eqS,aH,bh,rI,h1,gIn,kA,dQ,fg]
   . by_cases h2:b=45
     . simp[bK,bD,bI,bH,bZ,aZ,bB,gEq,eqS,aH,bh,rI,h2,gIn,kA,dQ,fg]
     . have z1:¬ 43=b:=fun z=>h1 z.symm
       have z2:¬ 45=b:=fun z=>h2 z.symm
       simp[bK,bD,bI,bH,bZ,aZ,bB,gEq,eqS,aH,bh,rI,h1,h2,z1,z2,gIn,kA,dQ,fg]
theorem jQ(b:Int):∃ x,bS [.int b]=.ok (.sh x) /\ cG x=!yx b:=by
 unfold yx
 by_cases h1:b=34
 . exact⟨.int 34,by simp[da,bS,ib,List.lookup,h1],by simp[cG,h1]⟩
 by_cases h2:b=92
 . exact⟨.int 92,by simp[da,bS,ib,List.lookup,h2],by simp[cG,h2]⟩
 by_cases h3:b=47
 . exact⟨.int 47,by simp[da,bS,ib,List.lookup,h3],by simp[cG,h3]⟩
 by_cases h4:b=98
 . exact⟨.int 8,by simp[da,bS,ib,List.lookup,h4],by simp[cG,h4]⟩
 by_cases h5:b=102
 . exact⟨.int 12,by simp[da,bS,ib,List.lookup,h5],by simp[cG,h5]⟩
 by_cases h6:b=110
 . exact⟨.int 10,by simp[da,bS,ib,List.lookup,h6],by simp[cG,h6]⟩
 by_cases h7:b=114
 . exact⟨.int 13,by simp[da,bS,ib,List.lookup,h7],by simp[cG,h7]⟩
 by_cases h8:b=116
 . exact⟨.int 9,by simp[da,bS,ib,List.lookup,h8],by simp[cG,h8]⟩
 have zz:∀ k:Int,¬ b=k->(b==k)=false:=fun k h=>by simpa using h
 exact⟨.non,by simp[da,bS,ib,List.lookup,zz _ h1,zz _ h2,zz _ h3,zz _ h4,zz _ h5,zz _ h6,zz _ h7,zz _ h8],by simp[cG,h1,h2,h3,h4,h5,h6,h7,h8]⟩
theorem gv(b:Int):cK [.int b]=.ok (rI (EG b)):=by
 obtain⟨x,hx,hn⟩:=jQ b;unfold EG
 by_cases h1:b=117
 . simp[ja,cK,h1,rI,bB]
 . cases hs:yx b<;>rw[hs]at hn<;>simp at hn<;>simp[ja,cK,h1,hx,hn,rI]
theorem IB(b:Int)(l:List PG.It)(h:tls b=some l):l.length<=3:=by
 unfold tls at h
 repeat' split at h
 all_goals(first|(cases h;done)|(injection h with h;subst h;simp))
theorem gC(b:Int):b4 [.int b]=.ok (rI (uJ b)):=by
 have ht:=EW b;unfold uJ
 by_cases h1:b=34
 . simp[ee,eB,eA,eh,eZ,b4,h1,rI]
 by_cases h2:b=92
 . simp[ee,eB,eA,eh,eZ,b4,h2,rI,bB]
 cases e:tls b with
 | none=>
   rw[e]at ht
   by_cases h3:b<32<;>simp[ee,eB,eA,eh,eZ,b4,h1,h2,h3,rI,ht,cG]
 | some l=>
   rw[e]at ht
   have hl:l.length+1<=lim:=fj (by have:=IB b l e;omega)
   by_cases h3:b<32<;>simp[ee,eB,eA,eh,eZ,b4,h1,h2,h3,rI,ht,cG,hl,bB]
theorem i3(w:Int):dJ [.int w]=.ok (rI (B7 w)):=by
 unfold B7
 by_cases h1:w<8
 . simp[jR,jB,kR,dJ,h1,rI,bB]
 . by_cases h2:w<12<;>simp[jR,jB,kR,dJ,h1,h2,rI,bB]
theorem vA(it:PG.It)(b:Int)(h:it=.text \/ it=.escape \/ it=.code \/ it=.coded):bN [bB it,.int b]=.ok (rI (bh it b)):=by
 have hw:=jl b
 rcases h with rfl|rfl|rfl|rfl
 . simp[dn,dr,dm,dq,du,dR,bN,bB,gEq,eqS,aH,gC]
   cases e:uJ b<;>simp[bh,rI,e]
 . simp[dn,dr,dm,dq,du,dR,bN,bB,gEq,eqS,aH,gv]
   cases e:EG b<;>simp[bh,rI,e]
 . cases e:eV b with
   | none=>
     rw[e]at hw;simp[dn,dr,dm,dq,du,dR,bN,bB,gEq,eqS,aH,hw,cG,bh,e,rI]
   | some w=>
     rw[e]at hw
     by_cases h13:w=13<;>simp[dn,dr,dm,dq,du,dR,bN,bB,gEq,eqS,aH,hw,cG,bh,e,rI,h13]
 . cases e:eV b with
   | none=>
     rw[e]at hw;simp[dn,dr,dm,dq,du,dR,bN,bB,gEq,eqS,aH,hw,cG,bh,e,rI]
   | some w=>
     rw[e]at hw;simp[dn,dr,dm,dq,du,dR,bN,bB,gEq,eqS,aH,hw,cG,bh,e,i3]
     cases e2:B7 w<;>simp[rI]
theorem Bn(it:PG.It)(b:Int)(h:it=.hex \/ it=.hexd \/ it=.hexcf):dD [bB it,.int b]=.ok (rI (bh it b)):=by
 have hw:=jl b
 cases e:eV b with
 | none=>
   rw[e]at hw
   rcases h with rfl|rfl|rfl<;>simp[ia,ie,gV,hE,jF,dD,bB,gEq,eqS,aH,hw,cG,bh,e,rI]
 | some w=>
   rw[e]at hw
   rcases h with rfl|rfl|rfl
   . simp[ia,ie,gV,hE,jF,dD,bB,gEq,eqS,aH,hw,cG,bh,e,rI]
   . by_cases h13:w=13<;>simp[ia,ie,gV,hE,jF,dD,bB,gEq,eqS,aH,hw,cG,bh,e,rI,h13]
   . by_cases h13:12<=w<;>simp[ia,ie,gV,hE,jF,dD,bB,gEq,eqS,aH,hw,cG,bh,e,rI,h13]
theorem DK(b:Int)(l:List PG.It)(h:lA b=some l):l.length<=5:=by
 unfold lA nz at h
 repeat' split at h
 all_goals(first|(cases h;done)|(injection h with h;subst h;decide))
theorem gA(b:Int):cg [.int b]=.ok (rI (bh .row b)):=by
 have hv:=fT b
 by_cases h1:b=93
 . simp[fD,ft,gq,cg,h1,rI,bh]
 cases e:lA b with
 |none=>rw[e]at hv;simp[fD,ft,gq,cg,h1,hv,rI,bh,e,cG]
 | some l=>
   rw[e]at hv
   have hl:l.length+2<=lim:=fj (by have:=DK b l e;omega)
   simp[fD,ft,gq,cg,h1,hv,rI,bh,e,cG,bB,hl]
theorem fb(b:Int):b6 [.int b]=.ok (rI (bh .fields b)):=by
 by_cases h1:b=125
 . simp[gQ,b6,h1,rI,bh]
 by_cases h2:b=34<;>simp[gQ,b6,h1,h2,rI,bh,dC,tL,bB]
theorem m6(it:PG.It)(b:Int)(h:it=.row \/ it=.mrow \/ it=.fields \/ it=.mfields):bb [bB it,.int b]=.ok (rI (bh it b)):=by
 rcases h with rfl|rfl|rfl|rfl
 . simp[cq,cf,cw,cu,cJ,bb,bB,gEq,eqS,aH,gA]
   cases e:bh .row b<;>simp[rI]
 . by_cases h1:b=44
   . simp[cq,cf,cw,cu,cJ,bb,bB,gEq,eqS,aH,h1,bh,rI]
   . by_cases h2:b=93<;>simp[cq,cf,cw,cu,cJ,bb,bB,gEq,eqS,aH,h1,h2,bh,rI]
 . simp[cq,cf,cw,cu,cJ,bb,bB,gEq,eqS,aH,fb]
   cases e:bh .fields b<;>simp[rI]
 . by_cases h1:b=44
   . simp[cq,cf,cw,cu,cJ,bb,bB,gEq,eqS,aH,h1,bh,rI,dC,tL]
   . by_cases h2:b=125<;>simp[cq,cf,cw,cu,cJ,bb,bB,gEq,eqS,aH,h1,h2,bh,rI]
theorem yc(o:Option (List PG.It))(xs:List PV):rI o≠.al xs:=by cases o<;>simp[rI]
theorem cp{x:PV}{b:Int}{ρ:ag}{o:Option (List PG.It)}(h:wK [some (.sh x),some (.sh (.int b))]=.rt ρ (rI o)):kJ [x,.int b]=.ok (rI o):=Eq.trans (congrArg fin h) (Ls (yc o))
theorem tD(it:PG.It)(b:Int):kJ [bB it,.int b]=.ok (rI (bh it b)):=by
 have t1:∀ it:PG.It,aZ [bB it,.int b]=.ok (rI (bh it b))->_:=fun it h=>qS h (yc _)
 have t2:∀ it:PG.It,bN [bB it,.int b]=.ok (rI (bh it b))->_:=fun it h=>qS h (yc _)
 have t3:∀ it:PG.It,dD [bB it,.int b]=.ok (rI (bh it b))->_:=fun it h=>qS h (yc _)
 have t4:∀ it:PG.It,bb [bB it,.int b]=.ok (rI (bh it b))->_:=fun it h=>qS h (yc _)
 cases it with
 |sp lo hi=>by_cases h1:lo<=b<;>by_cases h2:b<=hi<;>simp[wO,vZ,wH,wL,wt,xh,wF,wK,kJ,bB,isP,h1,h2,bh,rI]
 |br=>exact cp (ρ:=[some (.sh (bB .br)),some (.sh (.int b))]) ((sk (by rfl)).trans ((sk (by rfl)).trans ((sk (by rfl)).trans ((sk (by rfl)).trans ((sk (by rfl)).trans (st (by rfl) (by cases h:wht b<;>simp[gG,cj,h,bh,rI,bB])))))))
 |name=>exact cp (ρ:=[some (.sh (bB .name)),some (.sh (.int b))]) ((sk (by rfl)).trans ((sk (by rfl)).trans ((sk (by rfl)).trans ((sk (by rfl)).trans ((sk (by rfl)).trans ((sk (by rfl)).trans (st (by rfl) (by by_cases h:b=34<;>simp[gG,h,bh,rI,bB]))))))))
 |value=>exact cp ((sk (by rfl)).trans ((sk (by rfl)).trans ((sk (by rfl)).trans ((sk (by rfl)).trans ((sk (by rfl)).trans ((sk (by rfl)).trans ((sk (by rfl)).trans (Ej (fT b) (yc _)))))))))
 |lead=>exact cp ((sk (by rfl)).trans (st (by rfl) (t1 .lead (nP _ b (by simp)))))
 |figures=>exact cp ((sk (by rfl)).trans (st (by rfl) (t1 .figures (nP _ b (by simp)))))
 |fraction=>exact cp ((sk (by rfl)).trans (st (by rfl) (t1 .fraction (nP _ b (by simp)))))
 |exponent=>exact cp ((sk (by rfl)).trans (st (by rfl) (t1 .exponent (nP _ b (by simp)))))
 |sign=>exact cp ((sk (by rfl)).trans (st (by rfl) (t1 .sign (nP _ b (by simp)))))
 |text=>exact cp ((sk (by rfl)).trans ((sk (by rfl)).trans (st (by rfl) (t2 .text (vA _ b (by simp))))))
 |escape=>exact cp ((sk (by rfl)).trans ((sk (by rfl)).trans (st (by rfl) (t2 .escape (vA _ b (by simp))))))
 |code=>exact cp ((sk (by rfl)).trans ((sk (by rfl)).trans (st (by rfl) (t2 .code (vA _ b (by simp))))))
 |coded=>exact cp ((sk (by rfl)).trans ((sk (by rfl)).trans (st (by rfl) (t2 .coded (vA _ b (by simp))))))
 |hex=>exact cp ((sk (by rfl)).trans ((sk (by rfl)).trans ((sk (by rfl)).trans (st (by rfl) (t3 .hex (Bn _ b (by simp)))))))
 |hexd=>exact cp ((sk (by rfl)).trans ((sk (by rfl)).trans ((sk (by rfl)).trans (st (by rfl) (t3 .hexd (Bn _ b (by simp)))))))
 |hexcf=>exact cp ((sk (by rfl)).trans ((sk (by rfl)).trans ((sk (by rfl)).trans (st (by rfl) (t3 .hexcf (Bn _ b (by simp)))))))
 |row=>exact cp ((sk (by rfl)).trans ((sk (by rfl)).trans ((sk (by rfl)).trans ((sk (by rfl)).trans (st (by rfl) (t4 .row (m6 _ b (by simp))))))))
 |mrow=>exact cp ((sk (by rfl)).trans ((sk (by rfl)).trans ((sk (by rfl)).trans ((sk (by rfl)).trans (st (by rfl) (t4 .mrow (m6 _ b (by simp))))))))
 |fields=>exact cp ((sk (by rfl)).trans ((sk (by rfl)).trans ((sk (by rfl)).trans ((sk (by rfl)).trans (st (by rfl) (t4 .fields (m6 _ b (by simp))))))))
 |mfields=>exact cp ((sk (by rfl)).trans ((sk (by rfl)).trans ((sk (by rfl)).trans ((sk (by rfl)).trans (st (by rfl) (t4 .mfields (m6 _ b (by simp))))))))
noncomputable abbrev cm(st:List PG.It):List PV:=st.reverse.map bB
theorem Al(st:List PG.It):PG.wk st=.ob "Walk" ["coming"] [.ol ((cm st).map .sh)]:=rfl
theorem Bz(st:List PG.It):(PG.wk st).get [.fd "coming"]=some (.ol ((cm st).map .sh)):=by
 simp[Al,OV.get,OV.at1,qQ]
theorem F0(st:List PG.It)(t:OV):(PG.wk st).put [.fd "coming"] t=.ob "Walk" ["coming"] [t]:=by
 simp[Al,OV.put,OV.at1,OV.gn,qQ,xo]
theorem Bm{ρ:ag}{i:Nat}{s:Sl}{st:List PG.It}(h:ρ[i]?=some (some s))(hs:slT s=some (PG.wk st)):subAt i aI ρ=some (PG.wk st):=by
 unfold subAt gB aI;rw[h];simp[hs]
theorem Bh{ρ:ag}{i:Nat}{s:Sl}{st:List PG.It}(h:ρ[i]?=some (some s))(hs:slT s=some (PG.wk st)):pFd i aI "coming" pG ρ=some [.fd "coming"]:=by
 unfold pFd;rw[Bm h hs,Al];simp[pG,qQ,aI]
theorem zj{ρ:ag}{i:Nat}{s:Sl}{st:List PG.It}(h:ρ[i]?=some (some s))(hs:slT s=some (PG.wk st)):subAt i (pFd i aI "coming" pG) ρ=some (.ol ((cm st).map .sh)):=by
 unfold subAt gB;rw[h,Bh h hs];simp[hs,Bz]
theorem Nk(it:PG.It):gT [some (.sh (bB it))]=.ok (PG.opn it):=by
 cases it<;>simp -implicitDefEqProofs [gT,bB,gIn,kA,dQ,PG.opn,fg]
theorem Ds(l:List PG.It):iQ gT jO [] (l.map bB)=.ok ((l.filter PG.opn).map bB):=by
 induction l with
 |nil=>rfl
 | cons it l ih=>
   rw[List.map_cons];unfold iQ;have h:=Nk it
   have he:jO [some (.sh (bB it))]=.ok (.sh (bB it)):=rfl
   cases e:PG.opn it<;>rw[e]at h<;>simp[h,ih,e,he]
theorem Bs(st:List PG.It)(hl:st.length<=100000):cL [.bo (PG.wk st)]=.ok (.int (PG.cnt st)) [none]:=by
 have hp:de 0 (pFd 0 aI "coming" pG) [some (.bo (PG.wk st))]=.ok (.al (cm st)):=by
  unfold de;rw[zj (s:=.bo (PG.wk st)) rfl rfl];simp only[xP]
 have hc:(st.reverse.filter PG.opn).length=PG.cnt st:=by unfold PG.cnt;rw[List.filter_reverse,List.length_reverse]
 have hn:PG.cnt st<=lim:=fj (by unfold PG.cnt;have:=List.length_filter_le PG.opn st;omega)
 have he:=Ds st.reverse
 simp -implicitDefEqProofs only[cL,pD,fnI,lg,wB,hp,dv,List.map_nil,he,FC,Gz,List.map_cons,List.length_cons,List.length_nil,List.replicate,List.append_nil,q9,EY,Fg,List.length_map,hc,hn,if_true,Mp,yp,hU,GG,Nat.sub_self,uh]
 rfl
theorem IF(it:PG.It):oB (bB it) (.tup [.str "white",.str "figures",.str "fraction",.str "exponent",.str "sign"])=some (.sh (.bl (!PG.loose it))):=by
 cases it<;>simp -implicitDefEqProofs [bB,oB,kA,dQ,PG.loose,fg]
theorem Fv(it:PG.It):gIn (bB it) (.tup [.str "white",.str "figures",.str "fraction",.str "exponent",.str "sign"])=some (.sh (.bl (PG.loose it))):=by
 cases it<;>simp -implicitDefEqProofs [bB,gIn,kA,dQ,PG.loose,fg]
theorem Kw{ρ:ag}{i:Nat}{io:Bool}{it:PG.It}{st:List PG.It}(h:ρ[i]?=some (some (.tr io (PG.wk (it ::st))))):mR i (pFd i aI "coming" pG) ρ=.ok (ρ.set i (some (.tr io (PG.wk st)))) (.sh (bB it)):=by
 have hc:(cm (it ::st)).map OV.sh=(cm st).map OV.sh++[.sh (bB it)]:=by simp[cm]
 unfold mR;rw[h,Bh h rfl];simp only[Bz,hc,List.getLast?_concat,List.dropLast_concat,F0];rfl
theorem LX{ρ:ag}{i:Nat}{io:Bool}{l st:List PG.It}{me:ag->OE}(h:ρ[i]?=some (some (.tr io (PG.wk st))))(he:me ρ=.ok (.fr (l.map bB).reverse))(hl:st.length+l.length<=100000):
  dP i (pFd i aI "coming" pG) me ρ=.nx (ρ.set i (some (.tr io (PG.wk (l++st))))):=by
 have hc:(cm (l++st)).map OV.sh=(cm st).map OV.sh++(l.map bB).reverse.map .sh:=by simp[cm]
 have hl2:st.length+l.length<=lim:=fj (by omega)
 unfold dP vd;rw[h,Bh h rfl];simp only[Bz,he,hU,List.length_map,List.length_reverse,hl2,if_true,F0];rw[Al,hc]
theorem A3{ρ:ag}{i:Nat}{io:Bool}{st:List PG.It}(h:ρ[i]?=some (some (.tr io (PG.wk st)))):dE i (pFd i aI "coming" pG) ρ=.ok (!st.isEmpty):=by
 unfold dE;rw[zj h rfl]
 cases st<;>simp[cm]
theorem Iy{ρ:ag}{i:Nat}{io:Bool}{st:List PG.It}(h:ρ[i]?=some (some (.tr io (PG.wk st))))(hl:st.length<=100000):ph "Walk" "brackets" cL [.b i aI] ρ=.ok (.sh (.int (PG.cnt st))):=by
 have ha:nC (.b i aI) ρ=some (.bo (PG.wk st)):=by
  simp only[nC];rw[Bm h rfl];rfl
 have hr:recv "Walk" "brackets" (some (.bo (PG.wk st)))=true:=by
  rw[Al];simp[recv,aH]
 simp only[ph,ha,hr,if_true,yN,jT,Option.bind_some,Option.map_some,Bs st hl]
theorem Eb(b:Int)(it:PG.It)(st:List PG.It)(io:Bool)(x y:Option Sl)(hl:st.length+8<=100000):iq [some (.tr io (PG.wk (it ::st))),some (.sh (.int b)),x,y] =
  match bh it b with
  |some l=>.rt [some (.tr io (PG.wk (l++st))),some (.sh (.int b)),some (.sh (bB it)),some (.ow (l.map bB))] (.sh (.bl (decide (PG.cnt (l++st)<=64))))
  |none=>if PG.loose it then .nx [some (.tr io (PG.wk st)),some (.sh (.int b)),some (.sh (bB it)),some (.sh .non)]else .rt [some (.tr io (PG.wk st)),some (.sh (.int b)),some (.sh (bB it)),some (.sh .non)] (.sh (.bl false)):=by
 have h1:iE 2 (mR 0 (pFd 0 aI "coming" pG)) [some (.tr io (PG.wk (it ::st))),some (.sh (.int b)),x,y]=.nx [some (.tr io (PG.wk st)),some (.sh (.int b)),some (.sh (bB it)),y]:=by
  unfold iE;rw[Kw (it:=it) (st:=st) (io:=io) rfl];rfl
 have hb:=tD it b;have hlo:=IF it;unfold iq;simp only[oa,h1,jj]
 cases e:bh it b with
 | none=>
   rw[e]at hb
   cases e2:PG.loose it<;>rw[e2]at hlo<;>simp -implicitDefEqProofs [hb,rI,cG,hlo]
 | some l=>
   rw[e]at hb;have hll:=FX it b l e
   have h2:dP 0 (pFd 0 aI "coming" pG) (HB (ao 3) (mUn hZ (mC (.int 1)))) [some (.tr io (PG.wk st)),some (.sh (.int b)),some (.sh (bB it)),some (.ow (l.map bB))]=.nx [some (.tr io (PG.wk (l++st))),some (.sh (.int b)),some (.sh (bB it)),some (.ow (l.map bB))]:=
    LX (io:=io) rfl (by simp[HB]) (by omega)
   have h3:ph "Walk" "brackets" cL [.b 0 aI] [some (.tr io (PG.wk (l++st))),some (.sh (.int b)),some (.sh (bB it)),some (.ow (l.map bB))]=.ok (.sh (.int (PG.cnt (l++st)))):=Iy (io:=io) rfl (by simp;omega)
   have h4:(decide ((PG.cnt (l++st):Int)<=64))=decide (PG.cnt (l++st)<=64):=by rw[decide_eq_decide];omega
   simp -implicitDefEqProofs [hb,rI,cG,h2,h3,h4]
theorem DD(b:Int)(io:Bool)(st:List PG.It):∀(n:Nat) (x y:Option Sl),st.length<n->st.length+8<=100000 ->
  ∃ x' y',(bX iD iq n [some (.tr io (PG.wk st)),some (.sh (.int b)),x,y]).andThen (bc (mC (.bl false)))=.rt [some (.tr io (PG.wk (gon st b).1)),some (.sh (.int b)),x',y'] (.sh (.bl (gon st b).2)):=by
 induction st with
 | nil=>
   intro n x y hn hl
   obtain⟨m,rfl⟩:∃ m,n=m+1:=⟨n - 1,by simp at hn;omega⟩
   refine⟨x,y,?_⟩
   have hc:iD [some (.tr io (PG.wk [])),some (.sh (.int b)),x,y]=.ok false:=A3 (i:=0) (ρ:=[some (.tr io (PG.wk [])),some (.sh (.int b)),x,y]) (io:=io) (st:=[]) rfl
   simp[bX,hc,gon]
 | cons it st ih=>
   intro n x y hn hl
   obtain⟨m,rfl⟩:∃ m,n=m+1:=⟨n - 1,by simp at hn;omega⟩
   have hc:iD [some (.tr io (PG.wk (it ::st))),some (.sh (.int b)),x,y]=.ok true:=A3 (i:=0) (ρ:=[some (.tr io (PG.wk (it ::st))),some (.sh (.int b)),x,y]) (io:=io) (st:=it ::st) rfl
   have ht:=Eb b it st io x y (by simp at hl;omega);unfold gon
   cases e:bh it b with
   | some l=>
     rw[e]at ht
     exact⟨some (.sh (bB it)),some (.ow (l.map bB)),by simp only[bX,hc,eK,if_true,ht,C1,v3]⟩
   | none=>
     rw[e]at ht
     dsimp only at ht ⊢
     cases e2:PG.loose it with
     | false=>
       rw[e2]at ht
       exact⟨some (.sh (bB it)),some (.sh .non),by simp only[bX,hc,eK,if_true,ht,C1,v3,Bool.false_eq_true,if_false]⟩
     | true=>
       rw[e2]at ht;obtain⟨x',y',h⟩:=ih m (some (.sh (bB it))) (some (.sh .non)) (by simp at hn;omega) (by simp at hl;omega)
       exact⟨x',y',by simp only[bX,hc,eK,if_true,ht,iA,h]⟩
theorem DQ(b:Int)(st:List PG.It)(hl:st.length+8<100000):dW [.tr true (PG.wk st),.sh (.int b)]=.ok (.bl (gon st b).2) [some (PG.wk (gon st b).1),none]:=by
 obtain⟨x',y',h⟩:=DD b true st fuel none none (by unfold fuel;omega) (by omega)
 have e:jD [some (.tr true (PG.wk st)),some (.sh (.int b)),none,none]=_:=h
 show fnI 2 4 jD _=_;unfold fnI;rw[if_pos (by rfl)];show uh 2 (jD [some (.tr true (PG.wk st)),some (.sh (.int b)),none,none])=_;rw[e];rfl
theorem D6(io:Bool)(rw:PV)(row:List Int):∀(k:Nat) (st:List PG.It) (x y:Option Sl),st.length+8*row.length+8<100000 ->
  ∃ x' y',pb 2 3 kx (uY k (row.map .int)) [some (.tr io (PG.wk st)),some (.sh rw),x,y]=if(PG.tk st row).2=row.length then .nx [some (.tr io (PG.wk (PG.tk st row).1)),some (.sh rw),x',y']else .rt [some (.tr io (PG.wk (PG.tk st row).1)),some (.sh rw),x',y'] (.sh (.int ((k+(PG.tk st row).2:Nat):Int))):=by
 induction row with
 |nil=>intro k st x y hl;exact⟨x,y,by simp[uY,pb,PG.tk]⟩
 | cons b row ih=>
   intro k st x y hl;simp only[List.length_cons]at hl;have hg:=DQ b st (by omega);have hlen:=Dd st b
   have ht:kx [some (.tr io (PG.wk st)),some (.sh rw),some (.sh (.int k)),some (.sh (.int b))]=if(gon st b).2 then .nx [some (.tr io (PG.wk (gon st b).1)),some (.sh rw),some (.sh (.int k)),some (.sh (.int b))]else .rt [some (.tr io (PG.wk (gon st b).1)),some (.sh rw),some (.sh (.int k)),some (.sh (.int b))] (.sh (.int k)):=by
    have ha:nC (.t 0 aI) [some (.tr io (PG.wk st)),some (.sh rw),some (.sh (.int k)),some (.sh (.int b))]=some (.tr true (PG.wk st)):=by simp[nC,aI]
    have ha2:nC (.e (ao 3)) [some (.tr io (PG.wk st)),some (.sh rw),some (.sh (.int k)),some (.sh (.int b))]=some (.sh (.int b)):=by simp[nC]
    have hr:recv "Walk" "goes_on" (some (.tr true (PG.wk st)))=true:=by rw[Al];simp[recv,aH]
    have hx:pL "Walk" "goes_on" dW [.t 0 aI,.e (ao 3)] [some (.tr io (PG.wk st)),some (.sh rw),some (.sh (.int k)),some (.sh (.int b))]=.ok [some (.tr io (PG.wk (gon st b).1)),some (.sh rw),some (.sh (.int k)),some (.sh (.int b))] (.sh (.bl (gon st b).2)):=by
     simp only[pL,ha,hr,if_true,jP,jT,ha2,Option.bind_some,Option.map_some,hg];simp[fQ,kY,aI]
    unfold kx HZ;rw[hx]
    cases(gon st b).2<;>simp
   unfold PG.tk;simp only[List.map_cons,uY,pb,List.set_cons_succ,List.set_cons_zero,ht]
   cases e:(gon st b).2 with
   |false=>exact⟨some (.sh (.int k)),some (.sh (.int b)),by simp⟩
   | true=>
     obtain⟨x',y',h⟩:=ih (k+1) (gon st b).1 (some (.sh (.int k))) (some (.sh (.int b))) (by omega)
     refine⟨x',y',?_⟩
     simp only[if_true,iA,h,List.length_cons,Nat.add_right_cancel_iff]
     have:k+1+(PG.tk (gon st b).1 row).2=k+((PG.tk (gon st b).1 row).2+1):=by omega
     rw[this]
theorem Mc(st:List PG.It)(row:List Int)(hl:st.length+8*row.length+8<100000):fZ [.tr true (PG.wk st),.sh (.lst (row.map .int))]=.ok (.int (PG.tk st row).2) [some (PG.wk (PG.tk st row).1),none]:=by
 obtain⟨x',y',h⟩:=D6 true (.lst (row.map .int)) row 0 st none none hl;show fnI 2 4 mV _=_;unfold fnI;rw[if_pos (by rfl)];show uh 2 (mV [some (.tr true (PG.wk st)),some (.sh (.lst (row.map .int))),none,none])=_;unfold mV CC;simp only[oa,Bf,List.getElem?_cons_succ,List.getElem?_cons_zero,hU,JZ,h]
 by_cases e:(PG.tk st row).2=row.length
 . simp[e,uh,qC]
 . simp[e,uh,qC]
theorem BS(st:List PG.It)(hl:st.length<=100000):dk [.bo (PG.wk st)]=.ok (.bl (st.all PG.loose)) [none]:=by
 have hp:de 0 (pFd 0 aI "coming" pG) [some (.bo (PG.wk st))]=.ok (.al (cm st)):=by
  unfold de;rw[zj (s:=.bo (PG.wk st)) rfl rfl];simp only[xP]
 have hn:st.length<=lim:=fj (by omega)
 have he:dc jt [] (cm st)=.ok ((st.reverse.map PG.loose).map .bl):=by
  rw[List.map_map]
  refine kb _ fun it _=>?_
  simp[jt,Fv]
 have hb:Hf (.lst ((st.reverse.map PG.loose).map .bl))=some (.sh (.bl (st.all PG.loose))):=by
  simp only[Hf,zO,Option.map_some]
  congr 3
  rw[List.all_map,List.all_reverse];rfl
 simp -implicitDefEqProofs only[dk,pB,fnI,lg,EO,hp,dv,List.map_nil,he,FC,Gz,List.map_cons,List.length_cons,List.length_nil,List.replicate,List.append_nil,q9,EY,Fg,List.length_map,List.length_reverse,hn,if_true,hb,yp,hU,GG,Nat.sub_self,uh]
 rfl
theorem KI:dj [.tr true (.ob "Walk" [] [])]=.ok .non [some (PG.wk st0)]:=by
 rfl
theorem K1(row:List Int):∀ st,(PG.tk st row).1.length<=st.length+8*row.length+8:=by
 induction row with
 |nil=>intro st;simp[PG.tk]
 | cons b row ih=>
   intro st;have:=Dd st b;have h2:=ih (gon st b).1;unfold PG.tk
   split<;>simp only[List.length_cons]<;>omega
noncomputable def ofO:Option Nat->PV
 |some k=>.int k
 |none=>.non
theorem vy(row:List Int)(hl:8*row.length+20<100000):pj [.lst (row.map .int)]=.ok (.sh (ofO (PG.flt row))):=by
 have ht:=Mc st0 row (by simp[st0];omega);have hlen:=K1 row st0;have hw:=BS (PG.tk st0 row).1 (by have:st0.length=3:=rfl;omega)
 have h0:xT "Walk" dj [some (.sh (.lst (row.map .int))),none,none]=.ok (PG.wk st0):=by unfold xT;rw[KI]
 have h1:iE 2 (pL "Walk" "take" fZ [.t 1 aI,.e (ao 0)]) [some (.sh (.lst (row.map .int))),some (.tr false (PG.wk st0)),none]=.nx [some (.sh (.lst (row.map .int))),some (.tr false (PG.wk (PG.tk st0 row).1)),some (.sh (.int (PG.tk st0 row).2))]:=by
  have ha:nC (.t 1 aI) [some (.sh (.lst (row.map .int))),some (.tr false (PG.wk st0)),none]=some (.tr true (PG.wk st0)):=by simp[nC,aI]
  have ha2:nC (.e (ao 0)) [some (.sh (.lst (row.map .int))),some (.tr false (PG.wk st0)),none]=some (.sh (.lst (row.map .int))):=by simp[nC]
  have hr:recv "Walk" "take" (some (.tr true (PG.wk st0)))=true:=by rw[Al];simp[recv,aH]
  unfold iE;simp only[pL,ha,hr,if_true,jP,jT,ha2,Option.bind_some,Option.map_some,ht];simp[fQ,kY,aI,nio]
 have h2:ph "Walk" "is_whole" dk [.b 1 aI] [some (.sh (.lst (row.map .int))),some (.tr false (PG.wk (PG.tk st0 row).1)),some (.sh (.int (PG.tk st0 row).2))]=.ok (.sh (.bl ((PG.tk st0 row).1.all PG.loose))):=by
  have ha:nC (.b 1 aI) [some (.sh (.lst (row.map .int))),some (.tr false (PG.wk (PG.tk st0 row).1)),some (.sh (.int (PG.tk st0 row).2))]=some (.bo (PG.wk (PG.tk st0 row).1)):=by
   simp only[nC];rw[Bm (s:=.tr false (PG.wk (PG.tk st0 row).1)) rfl rfl];rfl
  have hr:recv "Walk" "is_whole" (some (.bo (PG.wk (PG.tk st0 row).1)))=true:=by rw[Al];simp[recv,aH]
  simp only[ph,ha,hr,if_true,yN,jT,Option.bind_some,Option.map_some,hw]
 unfold PG.flt
 have hd:lx 1 (xT "Walk" dj) [some (.sh (.lst (row.map .int))),none,none]=.nx [some (.sh (.lst (row.map .int))),some (.tr false (PG.wk st0)),none]:=by
  unfold lx;rw[h0];rfl
 simp -implicitDefEqProofs only[pj,CL,tE,Cw,List.map_cons,List.map_nil,List.length_cons,List.length_nil,List.cons_append,List.nil_append,List.replicate,oa,hd,jj,xR,h1,x8,Bo,IQ,Hv,Jv,Bf,List.getElem?_cons_succ,List.getElem?_cons_zero,Gz,q9,ES,h2]
 by_cases e:(PG.tk st0 row).2=row.length
 . cases e2:(PG.tk st0 row).1.all PG.loose<;>simp[e,uu,ofO]
 . have e3:¬ ((PG.tk st0 row).2:Int)=(row.length:Int):=by omega
   simp[e,e3,uu,ofO]
theorem Gp(row:List Int)(hl:8*row.length+20<100000):dU [.lst (row.map .int)]=match PG.flt row with
  |some _=>.bad
  |none=>.ok (.sh .non):=by
 have h:=vy row hl
 cases e:PG.flt row with
 |none=>rw[e]at h;simp -implicitDefEqProofs [mw,dU,h,ofO,cG]
 |some k=>rw[e]at h;simp -implicitDefEqProofs [mw,dU,h,ofO,cG,B9,fin]
noncomputable def fgB(big:Bool)(w:Int):Int:=if w<10 then 48+w else(if big then 55 else 87)+w
noncomputable def CZ(n:Int)(big:Bool):Sg:=.hx (fgB big (n/16/16/16%16)) (fgB big (n/16/16%16)) (fgB big (n/16%16)) (fgB big (n%16))
noncomputable def vf:List (Int×Int):=[(34,34),(92,92),(47,47),(8,98),(12,102),(10,110),(13,114),(9,116)]
noncomputable def IK(n m:Int)(b1 b2:Bool):Sg:=.pr (fgB b1 (n/16/16/16%16)) (fgB b1 (n/16/16%16)) (fgB b1 (n/16%16)) (fgB b1 (n%16)) (fgB b2 (m/16/16/16%16)) (fgB b2 (m/16/16%16)) (fgB b2 (m/16%16)) (fgB b2 (m%16))
noncomputable def rQ(p n:Int):Sg:=
 if n%5=0 /\ (vf.lookup p).isSome=true then .sh ((vf.lookup p).getD 0) p
 else if 1<n%5 /\ 32<=p /\ p≠34 /\ p≠92 then .pl p
 else if p<65536 then CZ p (decide (n%5=1))
 else IK (55296+(p - 65536)/1024) (56320+(p - 65536)%1024) (decide (n%5=1)) (decide (n%5=0))
theorem tu(big:Bool){w:Int}(h:0<=w /\ w<16):eV (fgB big w)=some w:=by
 unfold fgB eV
 by_cases h1:w<10
 . rw[if_pos h1,if_pos (by omega)];congr 1;omega
 . cases big
   . simp only[h1,if_false,Bool.false_eq_true];rw[if_neg (by omega),if_neg (by omega),if_pos (by omega)];congr 1;omega
   . simp only[h1,if_false,if_true];rw[if_neg (by omega),if_pos (by omega)];congr 1;omega
theorem xM{p:Int}(h:(vf.lookup p).isSome=true):((vf.lookup p).getD 0,p)∈shP:=by
 unfold vf at h ⊢
 simp only[List.lookup]at h ⊢
 repeat' split
 all_goals first
  |(rename_i e;have e':=eq_of_beq e;subst e';decide)
  |(simp_all;done)
theorem tI(n:Int)(big:Bool)(h:0<=n /\ n<65536):(eV (fgB big (n/16/16/16%16))=some (n/16/16/16%16) /\ eV (fgB big (n/16/16%16))=some (n/16/16%16) /\ eV (fgB big (n/16%16))=some (n/16%16) /\ eV (fgB big (n%16))=some (n%16)) /\
  cod (fgB big (n/16/16/16%16)) (fgB big (n/16/16%16)) (fgB big (n/16%16)) (fgB big (n%16))=n:=by
 have e1:=tu big (w:=n/16/16/16%16) (by omega);have e2:=tu big (w:=n/16/16%16) (by omega);have e3:=tu big (w:=n/16%16) (by omega);have e4:=tu big (w:=n%16) (by omega)
 refine⟨⟨e1,e2,e3,e4⟩,?_⟩
 simp only[cod,nQ e1,nQ e2,nQ e3,nQ e4];omega
theorem tP(p n:Int)(h:nu p=true):Sok (rQ p n) /\ Nh (rQ p n)=p:=by
 have hr:=pe h
 have hs:p<55296 \/ 57343<p:=by
  unfold nu at h;simp only[Bool.or_eq_true,Bool.and_eq_true,decide_eq_true_eq]at h;omega
 unfold rQ;split
 . rename_i c;exact⟨xM c.2,rfl⟩
 . split
   . rename_i c;exact⟨⟨h,c.2.1,c.2.2.1,c.2.2.2⟩,rfl⟩
   . split
     . rename_i c;obtain⟨⟨e1,e2,e3,e4⟩,ec⟩:=tI p (decide (n%5=1)) (by omega)
       exact⟨⟨by rw[e1];rfl,by rw[e2];rfl,by rw[e3];rfl,by rw[e4];rfl,by rw[ec];omega⟩,ec⟩
     . rename_i c;obtain⟨⟨e1,e2,e3,e4⟩,ec⟩:=tI (55296+(p - 65536)/1024) (decide (n%5=1)) (by omega);obtain⟨⟨f1,f2,f3,f4⟩,fc⟩:=tI (56320+(p - 65536)%1024) (decide (n%5=0)) (by omega)
       have g1:(55296+(p - 65536)/1024)/16/16/16%16=13:=by omega
       have g2:(56320+(p - 65536)%1024)/16/16/16%16=13:=by omega
       refine⟨⟨⟨by rw[e1,g1],by rw[nQ e2];omega,by rw[nQ e2];omega,by rw[e2];rfl,by rw[e3];rfl,by rw[e4];rfl⟩,by rw[f1,g2],by rw[nQ f2];omega,by rw[f2];rfl,by rw[f3];rfl,by rw[f4];rfl⟩,?_⟩
       show 65536+1024*(cod _ _ _ _ - 55296)+cod _ _ _ _ - 56320=p;rw[ec,fc];omega
noncomputable def AH(n:Int)(big:Bool):List Int:=[92,117,fgB big (n/16/16/16%16),fgB big (n/16/16%16),fgB big (n/16%16),fgB big (n%16)]
theorem tZ(n:Int)(big:Bool)(found:List Int)(k:Int)(x:Option Sl)(hl:found.length<=10):mO [some (.sh (.int n)),some (.sh (.bl big)),some (.ow (found.map .int)),some (.sh (.int k)),x]=.nx [some (.sh (.int (n/16))),some (.sh (.bl big)),some (.ow ((fgB big (n%16) ::found).map .int)),some (.sh (.int k)),some (.sh (.int (n%16)))]:=by
 have hlim:1+found.length<=lim:=fj (by omega)
 unfold fgB
 by_cases h:n%16<10
 . simp -implicitDefEqProofs [mO,h,hlim]
 . cases big<;>simp -implicitDefEqProofs [mO,h,hlim]
theorem ka(n:Int)(big:Bool):il [.int n,.bl big]=.ok (.fr ((AH n big).map .int)):=by
 have h1:=tZ n big [] 0 none (by simp);have h2:=tZ (n/16) big [fgB big (n%16)] 1 (some (.sh (.int (n%16)))) (by simp);have h3:=tZ (n/16/16) big [fgB big (n/16%16),fgB big (n%16)] 2 (some (.sh (.int (n/16%16)))) (by simp);have h4:=tZ (n/16/16/16) big [fgB big (n/16/16%16),fgB big (n/16%16),fgB big (n%16)] 3 (some (.sh (.int (n/16/16%16)))) (by simp);simp only[List.map_cons,List.map_nil]at h1 h2 h3 h4
 have hr:cT 4=[.int 0,.int 1,.int 2,.int 3]:=rfl
 have hb:(-4611686018427387904:Int)<=4 /\ (4:Int)<4611686018427387904:=by omega
 simp -implicitDefEqProofs [uS,uT,xF,il,hr,h1,h2,h3,h4,AH]
theorem sN(n:Int)(big:Bool)(h:0<=n /\ n<65536):nv (CZ n big)=AH n big:=by
 obtain⟨⟨e1,e2,e3,e4⟩,_⟩:=tI n big h;obtain⟨g1,g2,g3,g4⟩:=kl (by rw[e1];rfl) (by rw[e2];rfl) (by rw[e3];rfl) (by rw[e4];rfl);show ba 92++(ba 117++(ba _++(ba _++(ba _++(ba _++[])))))=_;rw[g1,g2,g3,g4];rfl
theorem D7(n m:Int)(b1 b2:Bool)(h:0<=n /\ n<65536)(h':0<=m /\ m<65536):nv (IK n m b1 b2)=AH n b1++AH m b2:=by
 rw[<- sN n b1 h,<- sN m b2 h']
 show([92,117,_,_,_,_,92,117,_,_,_,_]:List Int).flatMap ba=([92,117,_,_,_,_]:List Int).flatMap ba++([92,117,_,_,_,_]:List Int).flatMap ba
 rw[<- List.flatMap_append];rfl
theorem oo(p n:Int)(h:nu p=true):i6 [.int p,.int n]=.ok (.fr ((nv (rQ p n)).map .int)):=by
 have hr:=pe h;have h8:=mQ p h
 have hl:(vf.map fun p=>(p.1,PV.int p.2)).lookup p=(vf.lookup p).map .int:=by
  unfold vf;simp only[List.map,List.lookup]
  repeat' split
  all_goals rfl
 obtain⟨kv,hkv⟩:∃ kv,kv=vf.map fun p=>(p.1,PV.int p.2):=⟨_,rfl⟩
 rw[<- hkv]at hl
 have hset:lx 2 (LW [(34,34),(92,92),(47,47),(8,98),(12,102),(10,110),(13,114),(9,116)]) [some (.sh (.int p)),some (.sh (.int n)),none,none,none]=.nx [some (.sh (.int p)),some (.sh (.int n)),some (.tr false (.di kv)),none,none]:=by rw[hkv];rfl
 have hi:∀ a b c d,subAt 2 aI [a,b,some (.tr false (.di kv)),c,d]=some (.di kv):=fun a b c d=>by simp[subAt,gB,slT,aI]
 clear hkv
 have e1:fin (jv [some (.sh (.int p)),some (.sh (.int n)),some (.tr false (.di kv)),none,none])=.ok (.fr ((nv (rQ p n)).map .int)):=by
  unfold rQ
  by_cases c1:n%5=0 /\ (vf.lookup p).isSome=true
  . rw[if_pos c1];obtain⟨c,hc⟩:=Option.isSome_iff_exists.mp c1.2;have hm:=xM c1.2
    rw[hc]at hm hl ⊢
    have hby:nv (.sh c p)=[92,c]:=by
     simp only[Option.getD_some,shP,List.mem_cons,Prod.mk.injEq,List.not_mem_nil,or_false]at hm
     rcases hm with h|h|h|h|h|h|h|h<;>(obtain⟨rfl,rfl⟩:=h;rfl)
    simp only[Option.map_some]at hl;simp -implicitDefEqProofs [jv,oR,c1.1,zH,C8,hi,hl,hby]
  . rw[if_neg c1]
    have hg1:∀ x,fo (aB (mOp gEq (ao 3) (mC (.int 0)))) (aB (zH false (ao 0) 2 aI)) [some (.sh (.int p)),some (.sh (.int n)),some (.tr false (.di kv)),some (.sh (.int (n%5))),x]=.ok false:=fun x=>by
     by_cases z:n%5=0
     . have:vf.lookup p = none:=by
        cases e:vf.lookup p with
        |none=>rfl
        |some c=>exact absurd ⟨z,by rw[e];rfl⟩ c1
       rw[this]at hl;simp only[Option.map_none]at hl;simp -implicitDefEqProofs [z,zH,hi,hl]
     . simp -implicitDefEqProofs [z]
    have e2:fin (fw [some (.sh (.int p)),some (.sh (.int n)),some (.tr false (.di kv)),some (.sh (.int (n % 5))),none]) = .ok (.fr ((nv (if 1 < n % 5 /\ 32 <= p /\ p ≠ 34 /\ p ≠ 92 then .pl p
          else if p<65536 then CZ p (decide (n%5=1))else IK (55296+(p - 65536)/1024) (56320+(p - 65536)%1024) (decide (n%5=1)) (decide (n%5=0)))).map .int)):=by
     have e3:fin (lF [some (.sh (.int p)),some (.sh (.int n)),some (.tr false (.di kv)),some (.sh (.int (n%5))),none])=.ok (.fr ((nv (if p<65536 then CZ p (decide (n%5=1))else IK (55296+(p - 65536)/1024) (56320+(p - 65536)%1024) (decide (n%5=1)) (decide (n%5=0)))).map .int)):=by
      by_cases c3:p<65536
      . rw[if_pos c3,sN p _ (by omega)];simp -implicitDefEqProofs [lF,c3,ka]
      . rw[if_neg c3,D7 _ _ _ _ (by omega) (by omega)]
        have hlim:(AH (55296+(p - 65536)/1024) (decide (n%5=1))).length+(AH (56320+(p - 65536)%1024) (decide (n%5=0))).length<=lim:=by simp[AH]
        simp -implicitDefEqProofs [lF,c3,sV,tW,ka,hlim]
     by_cases d1:1<n%5
     . by_cases d2:32<=p
       . by_cases d3:p=34
         . rw[if_neg (fun z=>z.2.2.1 d3)];simp -implicitDefEqProofs [fw,d1,d2,d3]
           simpa [d3]using e3
         . by_cases d4:p=92
           . rw[if_neg (fun z=>z.2.2.2 d4)];simp -implicitDefEqProofs [fw,d1,d2,d3,d4]
             simpa [d4]using e3
           . rw[if_pos ⟨d1,d2,d3,d4⟩]
             have hb:nv (.pl p)=ba p:=by show ba p++[]=_;simp
             rw[hb];simp -implicitDefEqProofs [fw,d1,d2,d3,d4,h8]
       . rw[if_neg (fun z=>d2 z.2.1)];simp -implicitDefEqProofs [fw,d1,d2];exact e3
     . rw[if_neg (fun z=>d1 z.1)];simp -implicitDefEqProofs [fw,d1];exact e3
    have hs:jv [some (.sh (.int p)),some (.sh (.int n)),some (.tr false (.di kv)),none,none]=fw [some (.sh (.int p)),some (.sh (.int n)),some (.tr false (.di kv)),some (.sh (.int (n%5))),none]:=by
     have h3:bq 3 (mOp cI (ao 1) (mC (.int 5))) [some (.sh (.int p)),some (.sh (.int n)),some (.tr false (.di kv)),none,none]=.nx [some (.sh (.int p)),some (.sh (.int n)),some (.tr false (.di kv)),some (.sh (.int (n%5))),none]:=by simp -implicitDefEqProofs
     simp only[jv,oa,h3,jj,oR,Bo,hg1,eK,Bool.false_eq_true,if_false,HD]
    rw[hs];exact e2
 simp -implicitDefEqProofs only[i6,wA,CL,tE,List.map_cons,List.map_nil,List.length_cons,List.length_nil,List.replicate,List.cons_append,List.nil_append,oa,hset,jj]
 exact e1
noncomputable def lts:List Int->Int->Nat->List Sg
 |[],_,_=>[]
 |p ::l,n,k=>rQ p (n/(1+(k:Int)%7)+k) ::lts l n (k+1)
theorem M1(l:List Int):∀ n k,l.all nu=true->(lts l n k).map Nh=l:=by
 induction l with
 |nil=>intro n k _;rfl
 | cons p l ih=>
   intro n k h;simp only[List.all_cons,Bool.and_eq_true]at h;simp only[lts,List.map_cons,ih n (k+1) h.2,(tP p _ h.1).2]
theorem Gg(l:List Int):∀ n k,l.all nu=true->∀ s∈lts l n k,Sok s:=by
 induction l with
 |nil=>intro n k _ s hs;cases hs
 | cons p l ih=>
   intro n k h s hs;simp only[List.all_cons,Bool.and_eq_true]at h
   rcases List.mem_cons.mp hs with z|z
   . subst z;exact(tP p _ h.1).1
   . exact ih n (k+1) h.2 s z
theorem EH(s:Sg)(h:Sok s):(nv s).length<=12:=by
 cases s with
 | pl p=>
   show(ba p++[]).length<=12
   rw[List.append_nil];unfold ba
   repeat' split
   all_goals simp
 | sh c p=>
   simp only[Sok,shP,List.mem_cons,Prod.mk.injEq,List.not_mem_nil,or_false]at h
   rcases h with h|h|h|h|h|h|h|h<;>(obtain⟨rfl,rfl⟩:=h;decide)
 | hx a b c d=>
   obtain⟨ha,hb,hc,hd,_⟩:=h;obtain⟨e1,e2,e3,e4⟩:=kl ha hb hc hd
   show(ba 92++(ba 117++(ba a++(ba b++(ba c++(ba d++[])))))).length<=12
   rw[e1,e2,e3,e4,show ba 92=[92] from rfl,show ba 117=[117] from rfl];simp
 | pr a b c d e f g h'=>
   obtain⟨⟨f1,_,_,hb,hcc,hd⟩,f5,_,hf,hg,hh⟩:=h;obtain⟨e1,e2,e3,e4⟩:=kl (by rw[f1];rfl) hb hcc hd;obtain⟨e5,e6,e7,e8⟩:=kl (by rw[f5];rfl) hf hg hh
   show(ba 92++(ba 117++(ba a++(ba b++(ba c++(ba d++(ba 92++(ba 117++(ba e++(ba f++(ba g++(ba h'++[])))))))))))).length<=12
   rw[e1,e2,e3,e4,e5,e6,e7,e8,show ba 92=[92] from rfl,show ba 117=[117] from rfl];simp
theorem Ef(l:List Int)(n:Int)(a:Option Sl):∀(k:Nat) (found:List Int) (x:Option Sl),l.all nu=true->found.length+12*l.length<=100000->∃ x',jG 4 lB (l.map .int) [a,some (.sh (.int n)),some (.ow (found.map .int)),some (.sh (.int (k:Int))),x]=.nx [a,some (.sh (.int n)),some (.ow ((found++PG.inner (lts l n k)).map .int)),some (.sh (.int ((k+l.length:Nat):Int))),x']:=by
 induction l with
 |nil=>intro k found x _ _;exact⟨x,by simp[lts,PG.inner]⟩
 | cons p l ih=>
   intro k found x hp hl;simp only[List.all_cons,Bool.and_eq_true]at hp;simp only[List.length_cons]at hl;have hs:=oo p (n/(1+(k:Int)%7)+k) hp.1;have h12:=EH _ (tP p (n/(1+(k:Int)%7)+k) hp.1).1
   have hlim:found.length+(nv (rQ p (n/(1+(k:Int)%7)+k))).length<=lim:=fj (by omega)
   obtain⟨x',h⟩:=ih (k+1) (found++nv (rQ p (n/(1+(k:Int)%7)+k))) (some (.sh (.int p))) hp.2 (by simp;omega)
   refine⟨x',?_⟩
   have hd:(0:Int)<1+(k:Int)%7:=by omega
   have hd2:1+(k:Int)%7<1073741824:=by omega
   have ht:lB [a,some (.sh (.int n)),some (.ow (found.map .int)),some (.sh (.int (k:Int))),some (.sh (.int p))]=.nx [a,some (.sh (.int n)),some (.ow ((found++nv (rQ p (n/(1+(k:Int)%7)+k))).map .int)),some (.sh (.int ((k+1:Nat):Int))),some (.sh (.int p))]:=by
    simp -implicitDefEqProofs [lB,hd,hd2,hs,hlim]
   rw[List.map_cons,j4];simp only[List.set_cons_succ,List.set_cons_zero,ht,iA,h]
   have e:k+1+l.length=k+(l.length+1):=by omega
   simp[lts,PG.inner,e]
theorem Cn(l:List Int):∀ n k,(PG.inner (lts l n k)).length<=12*l.length \/ l.all nu=false:=by
 induction l with
 |nil=>intro n k;left;simp[lts,PG.inner]
 | cons p l ih=>
   intro n k
   by_cases h1:nu p=true
   . rcases ih n (k+1)with h|h
     . left;have h12:=EH _ (tP p (n/(1+(k:Int)%7)+k) h1).1
       show(nv _++PG.inner (lts l n (k+1))).length<=_
       rw[List.length_append,List.length_cons];omega
     . right;simp[h]
   . right;simp[h1]
theorem j7(l:List Int)(n:Int)(h:l.all nu=true)(hl:l.length<=1000):gd [.lst (l.map .int),.int n]=.ok (.fr ((PG.txt (lts l n 0)).map .int)):=by
 obtain⟨x',h1⟩:=Ef l n (some (.sh (.lst (l.map .int)))) 0 [34] none h (by simp;omega)
 have hlen:(PG.inner (lts l n 0)).length<=12*l.length:=by
  rcases Cn l n 0 with z|z
  . exact z
  . rw[h]at z;cases z
 have hlim:(PG.inner (lts l n 0)).length+1+1<=lim:=fj (by omega)
 simp only[List.map_cons,List.map_nil,Int.ofNat_zero,Int.cast_ofNat_Int]at h1
 simp -implicitDefEqProofs only[gd,wQ,CL,tE,List.map_cons,List.map_nil,List.length_cons,List.length_nil,List.replicate,List.cons_append,List.nil_append,oa]
 simp -implicitDefEqProofs [sX,tN,h1,sY,hlim,PG.txt]
noncomputable def low:Nat->Int->Int×Nat
 |0,n=>(n,0)
 |k+1,n=>if n%10=0 then((low k (n/10)).1,(low k (n/10)).2+1)else(n,0)
noncomputable def sv(s ds:List Int):Int:=if s=[45]then -cv ds else cv ds
noncomputable def exV:Option (Int×List Int×List Int)->Int
 |none=>0
 |some (_,s,ds)=>sv s ds
noncomputable def mwV(m:Nm):Int:=if m.neg then -cv (m.ip++m.fr)else cv (m.ip++m.fr)
noncomputable def dN(m:Nat):List Nat:=(Nat.toDigits 10 m).map Char.toNat
theorem HJ(m:Nat):(Str.ofString (toString ((m:Nat):Int))).cps.toList=dN m:=by
 rw[Str.ofString_eq_toList]
 have:(toString ((m:Nat):Int)).toList=Nat.toDigits 10 m:=by
  show(Nat.repr m).toList=_
  simp[Nat.repr]
 rw[this];rfl
theorem F6(m:Nat):yU (Str.ofString (toString ((m:Nat):Int)))=(dN m).map fun c=>PV.str ⟨#[c]⟩:=by
 unfold yU;rw[HJ]
theorem Gm:∀ d:Nat,d<10->(Nat.digitChar d).toNat=48+d:=by decide
theorem vo(m:Nat):(dN m).map (fun c:Nat=>(c:Int))=cX m:=by
 induction m using Nat.strongRecOn with
 | _ m ih=>
   rw[cX]
   by_cases h:m<10
   . rw[if_pos h];unfold dN;rw[Nat.toDigits_of_lt_base h];simp[Gm m h]
   . rw[if_neg h,<- ih (m/10) (by omega)];unfold dN;rw[Nat.toDigits_of_base_le (by decide) (by omega)];simp[Gm (m%10) (by omega)]
theorem Ml(m:Nat):∀ c∈dN m,48<=c /\ c<=57:=by
 intro c hc
 have h1:(c:Int)∈cX m:=by rw[<- vo];exact List.mem_map.mpr ⟨c,hc,rfl⟩
 have:=AA m _ h1;unfold isF at this;omega
theorem Kb(m:Nat):(dN m).length=(cX m).length:=by rw[<- vo];simp
theorem Ha(m:Nat)(h:m<100000):((m:Nat):Int).natAbs.log2<1920:=by
 have e:((m:Nat):Int).natAbs=m:=by omega
 rw[e]
 by_cases h0:m=0
 . subst h0;decide
 . have:=(Nat.log2_lt h0 (k:=17)).mpr (by omega);omega
theorem zV{me:ag->OE}{f:Nat->PV}(m:Nat)(h:m<100000)(hme:∀ c∈dN m,me ([]++[some (.sh (.str ⟨#[c]⟩))])=.ok (.sh (f c)))(ma:ag->OE)(ρ:ag)(ha:ma ρ=.ok (.sh (.int (m:Int)))):
  qM (mUn qk ma) [] me ρ=.ok (.fr ((dN m).map f)):=by
 have h2:(dN m).length<=lim:=by
  rw[Kb];have:=p8 4 m (by omega);exact fj (by omega)
 have e1:(mUn qk ma) ρ=.ok (.sh (.str (Str.ofString (toString (m:Int))))):=by
  have:qk (.int m)=some (.sh (.str (Str.ofString (toString (m:Int))))):=if_pos (Ha m h)
  simp[ha,this]
 have hel:dc me [] ((dN m).map fun c=>PV.str ⟨#[c]⟩)=.ok ((dN m).map f):=kb _ hme
 rw[F5,e1];simp only[OE.bind,RV.pv,F6,dv,List.map_nil,hel];simp[noX,h2]
theorem MR(c:Nat)(h:48<=c /\ c<=57):g8 ([]++[some (.sh (.str ⟨#[c]⟩))])=.ok (.sh (.int ((c:Int) - 48))):=by
 have:Cj (.str ⟨#[c]⟩)=some (.sh (.int ((c:Int) - 48))):=if_pos h
 simp[g8,this]
theorem Mg(c:Nat):fU ([]++[some (.sh (.str ⟨#[c]⟩))])=.ok (.sh (.int (c:Int))):=by
 have:EK (.str ⟨#[c]⟩)=some (.sh (.int ((⟨#[c]⟩:Str).cps.getD 0 0:Nat))):=rfl
 simp[fU,this]
noncomputable def ws(ds:List Int):List Int:=ds.map (· - 48)
theorem wl1(l:List Int):∀(w:Int) (a b c d x e f g:Option Sl),∃ x',jG 5 fV (l.map .int) [a,b,c,d,some (.sh (.int w)),x,e,f,g]=.nx [a,b,c,d,some (.sh (.int (l.foldl (fun n d=>n*10+d) w))),x',e,f,g]:=by
 induction l with
 |nil=>intro w a b c d x e f g;exact⟨x,rfl⟩
 | cons y l ih=>
   intro w a b c d x e f g;obtain⟨x',h⟩:=ih (w*10+y) a b c d (some (.sh (.int y))) e f g
   refine⟨x',?_⟩
   have ht:fV [a,b,c,d,some (.sh (.int w)),some (.sh (.int y)),e,f,g]=.nx [a,b,c,d,some (.sh (.int (w*10+y))),some (.sh (.int y)),e,f,g]:=by simp -implicitDefEqProofs [fV]
   rw[List.map_cons,j4];simp only[List.set_cons_succ,List.set_cons_zero,ht,iA,h,List.foldl_cons]
theorem wl2(l:List Int):∀(row:List Int) (w p:Int) (a b c x f g:Option Sl),row.length+l.length<=1000->∃ x',jG 5 g9 (l.map .int) [a,b,c,some (.ow (row.map .int)),some (.sh (.int w)),x,some (.sh (.int p)),f,g]=.nx [a,b,c,some (.ow ((row++l.map (48+·)).map .int)),some (.sh (.int (l.foldl (fun n d=>n*10+d) w))),x',some (.sh (.int (p - l.length))),f,g]:=by
 induction l with
 |nil=>intro row w p a b c x f g _;exact⟨x,by simp⟩
 | cons y l ih=>
   intro row w p a b c x f g hl;simp only[List.length_cons]at hl;obtain⟨x',h⟩:=ih (row++[48+y]) (w*10+y) (p - 1) a b c (some (.sh (.int y))) f g (by simp;omega)
   refine⟨x',?_⟩
   have hlim:row.length<lim:=oz (by omega)
   have ht:g9 [a,b,c,some (.ow (row.map .int)),some (.sh (.int w)),some (.sh (.int y)),some (.sh (.int p)),f,g]=.nx [a,b,c,some (.ow ((row++[48+y]).map .int)),some (.sh (.int (w*10+y))),some (.sh (.int y)),some (.sh (.int (p - 1))),f,g]:=by simp -implicitDefEqProofs [g9,hlim]
   rw[List.map_cons,j4];simp only[List.set_cons_succ,List.set_cons_zero,ht,iA,h,List.foldl_cons]
   have e1:p - 1 - (l.length:Int)=p - ((l.length:Int)+1):=by omega
   simp[e1]
theorem C9(ds:List Int):∀ w,(ws ds).foldl (fun n d=>n*10+d) w=ds.foldl (fun n d=>10*n+d - 48) w:=by
 induction ds with
 |nil=>intro w;rfl
 | cons d ds ih=>
   intro w
   simp only[ws,List.map_cons,List.foldl_cons]at ih ⊢
   have:w*10+(d - 48)=10*w+d - 48:=by omega
   rw[this];exact ih _
theorem K5(ds:List Int):(ws ds).map (48+·)=ds:=by
 unfold ws;rw[List.map_map]
 conv=>rhs;rw[<- List.map_id ds]
 refine List.map_congr_left fun x _=>?_
 show 48+(x - 48)=x;omega
theorem FQ(xs ys:List Int):cv (xs++ys)=ys.foldl (fun n d=>10*n+d - 48) (cv xs):=by
 unfold cv;rw[List.foldl_append]
noncomputable def bY(n:Int):List Int:=if n/17%3=1 then([48+n/19%10,48+n/23%4,48]:List Int).take (1+n/29%3).toNat else[]
noncomputable def gH(n:Int):Option (Int×List Int×List Int):=if n/31%3=1 then some (if n/41%2=0 then 101 else 69,if n/43%3=1 then[45]else if n/43%3=2 then[43]else[],(if n/47%4=1 then[48]else[])++cX (n/37%30).toNat)else none
noncomputable def eO(n:Int):Nm:=⟨decide (n%3=0),cX (n/3%100000).toNat,bY n,gH n⟩
theorem AL(n:Int):Nok (eO n) where
 ip:=by
  by_cases h:(n/3%100000).toNat=0
  . left;show cX _=_;rw[h,DI]
  . right;exact Em _ (by omega)
 fr:=fun b hb=>by
  have hb':b∈bY n:=hb
  unfold bY at hb';split at hb'
  . have:=List.mem_of_mem_take hb';simp at this;unfold isF;omega
  . cases hb'
 ex:=fun e s ds h=>by
  have h':gH n=some (e,s,ds):=h
  unfold gH at h';split at h'
  . injection h' with h'
    injection h' with h1 h'
    injection h' with h2 h3
    refine⟨?_,?_,?_,?_⟩
    . rw[<- h1];split<;>simp
    . rw[<- h2];split
      . simp
      . split<;>simp
    . rw[<- h3];intro z;exact GO _ (List.append_eq_nil_iff.mp z).2
    . rw[<- h3];intro b hb
      rcases List.mem_append.mp hb with z|z
      . split at z
        . simp at z;subst z;decide
        . cases z
      . exact AA _ b z
  . cases h'
noncomputable abbrev nE(n:Int)(a b c d e f g:Option Sl):ag:=[some (.sh (.int n)),some (.sh (.bl (decide (n%3=0)))),a,b,c,d,e,f,g]
theorem zQ(k:Nat):∀(n p:Int) (F:Nat),n≠0->n.natAbs<10 ^ k->k<F->bX iX ko F [some (.sh (.int n)),some (.sh (.int p))]=.nx [some (.sh (.int (low k n).1)),some (.sh (.int (p+(low k n).2)))]:=by
 induction k with
 |zero=>intro n p F h0 h _;simp at h;omega
 | succ k ih=>
   intro n p F h0 h hF
   obtain⟨F,rfl⟩:∃ G,F=G+1:=⟨F - 1,by omega⟩
   unfold bX low
   by_cases hm:n%10=0
   . rw[Nat.pow_succ]at h
     have h1:n/10≠0:=by omega
     have h2:(n/10).natAbs<10 ^ k:=by generalize 10 ^ k=z at h;omega
     have:=ih (n/10) (p+1) F h1 h2 (by omega)
     have hc:iX [some (.sh (.int n)),some (.sh (.int p))]=.ok true:=by simp[iX,hm]
     have hb:ko [some (.sh (.int n)),some (.sh (.int p))]=.nx [some (.sh (.int (n/10))),some (.sh (.int (p+1)))]:=by simp[ko]
     simp[hc,hb,hm,this,Int.add_assoc,Int.add_comm 1]
   . simp[iX,hm]
noncomputable def pairOf(k:Nat)(n p:Int):PV:=if n=0 then .tup [.int 0,.int 0]else .tup [.int (low k n).1,.int (p+(low k n).2)]
theorem FN(k:Nat)(n p:Int)(h:n.natAbs<10 ^ k)(hk:k<=90000):fF [.int n,.int p]=.ok (.sh (pairOf k n p)):=by
 unfold pairOf
 by_cases h0:n=0
 . rw[if_pos h0,h0];simp -implicitDefEqProofs [fF,qI]
 . rw[if_neg h0];have:=zQ k n p fuel h0 h (by unfold fuel;omega);simp -implicitDefEqProofs [fF,qI,r9,sd,h0,this]
theorem Gb(ds:List Int)(h:∀ b∈ds,isF b):0<=cv ds /\ cv ds<10 ^ ds.length:=by
 have key:∀(ds:List Int) (w:Int) (k:Nat),(∀ b∈ds,isF b)->0<=w /\ w<10 ^ k->0<=ds.foldl (fun n d=>10*n+d - 48) w /\ ds.foldl (fun n d=>10*n+d - 48) w<10 ^ (k+ds.length):=by
  intro ds
  induction ds with
  |nil=>intro w k _ hw;simpa using hw
  | cons d ds ih=>
    intro w k hd hw;have h1:=hd d List.mem_cons_self;unfold isF at h1
    have h2:(10:Int) ^ (k+1)=10 ^ k*10:=Int.pow_succ 10 k
    have:=ih (10*w+d - 48) (k+1) (fun b hb=>hd b (List.mem_cons_of_mem _ hb)) ⟨by omega,by rw[h2];omega⟩;rw[List.foldl_cons,List.length_cons];rw[show k+1+ds.length=k+(ds.length+1) by omega]at this;exact this
 have:=key ds 0 0 h (by simp);rw[Nat.zero_add]at this;exact this
theorem Gx(m:Nm)(h:Nok m)(k:Nat)(hk:(m.ip++m.fr).length<=k):(mwV m).natAbs<10 ^ k:=by
 have hip:∀ b∈m.ip++m.fr,isF b:=by
  intro b hb
  rcases List.mem_append.mp hb with z|z
  . rcases h.ip with e|⟨d,r,e,h1,h2,h3⟩
    . rw[e]at z;simp at z;subst z;decide
    . rw[e]at z
      rcases List.mem_cons.mp z with y|y
      . unfold isF;omega
      . exact h3 b y
  . exact h.fr b z
 obtain⟨b1,b2⟩:=Gb _ hip
 have b3:(10:Int) ^ (m.ip++m.fr).length<=10 ^ k:=by
  have:=Nat.pow_le_pow_right (n:=10) (by decide) hk
  have e1:((10 ^ (m.ip++m.fr).length:Nat):Int)=(10:Int) ^ (m.ip++m.fr).length:=by norm_cast
  have e2:((10 ^ k:Nat):Int)=(10:Int) ^ k:=by norm_cast
  omega
 have e2:((10 ^ k:Nat):Int)=(10:Int) ^ k:=by norm_cast
 unfold mwV
 split<;>omega
theorem lC(n:Int)(hn:0<=n):gg [.int n]=.ok (.sh (.tup [.lst ((PG.nb (eO n)).map .int),pairOf 20 (mwV (eO n)) (exV (eO n).ex - (eO n).fr.length)])):=by
 obtain⟨K,hK⟩:∃ K:Nat,K=(n/3%100000).toNat:=⟨_,rfl⟩
 have hK1:n/3%100000=(K:Int):=by omega
 have hK2:K<100000:=by omega
 have hdl:=p8 4 K (by omega)
 obtain⟨sg,hsg⟩:∃ sg:List Int,sg=if n%3=0 then[45]else[]:=⟨_,rfl⟩
 have hsl:sg.length<=1:=by rw[hsg];split<;>simp
 have ok:=AL n
 have hfl:(bY n).length<=3:=by unfold bY;split<;>simp;omega
 have hb20:=Gx (eO n) ok 20 (by show(cX (n/3%100000).toNat++bY n).length<=20;rw[<- hK];simp;omega);have hpl:=FN 20 (mwV (eO n)) (exV (eO n).ex - (eO n).fr.length) hb20 (by decide)
 have c1:bq 2 (qM (mUn qk (mOp cI (mOp dH (ao 0) (mC (.int 3))) (mC (.int 100000)))) [] g8) (nE n none none none none none none none)=.nx (nE n (some (.ow ((ws (cX K)).map .int))) none none none none none none):=by
  have:=zV (me:=g8) (f:=fun c=>.int ((c:Int) - 48)) K hK2 (fun c hc=>MR c (Ml K c hc)) (mOp cI (mOp dH (ao 0) (mC (.int 3))) (mC (.int 100000))) (nE n none none none none none none none) (by simp -implicitDefEqProofs [hK1]);rw[B3,this]
  have e:(dN K).map (fun c:Nat=>PV.int ((c:Int) - 48))=(ws (cX K)).map .int:=by
   rw[<- vo];simp[ws,List.map_map,Function.comp_def]
  rw[e];rfl
 have c2:bq 3 (gG (cU (ao 1)) (b5 (ak (mC (.int 45)) aJ)) (b5 aJ)) (nE n (some (.ow ((ws (cX K)).map .int))) none none none none none none)=.nx (nE n (some (.ow ((ws (cX K)).map .int))) (some (.ow (sg.map .int))) none none none none none):=by
  rw[hsg]
  by_cases h:n%3=0<;>simp -implicitDefEqProofs [h]
 have hel:dc jH [] ((ws (cX K)).map .int)=.ok ((cX K).map .int):=by
  have:(cX K).map PV.int=(ws (cX K)).map fun x=>.int (48+x):=by
   conv=>lhs;rw[<- K5 (cX K)]
   rw[List.map_map];rfl
  rw[this]
  exact kb _ fun x _=>by simp -implicitDefEqProofs [jH]
 have hdlim:(cX K).length<=lim:=fj (by omega)
 have hslim:sg.length+(cX K).length<=lim:=fj (by omega)
 have c3:bq 3 (mOp nB (ao 3) (uw (ao 2) [] jH)) (nE n (some (.ow ((ws (cX K)).map .int))) (some (.ow (sg.map .int))) none none none none none)=.nx (nE n (some (.ow ((ws (cX K)).map .int))) (some (.ow ((sg++cX K).map .int))) none none none none none):=by
  simp -implicitDefEqProofs [dv,hel,hdlim,hslim]
 obtain⟨x1,w1⟩:=wl1 (ws (cX K)) 0 (some (.sh (.int n))) (some (.sh (.bl (decide (n%3=0))))) (some (.sh (.lst ((ws (cX K)).map .int)))) (some (.ow ((sg++cX K).map .int))) none none none none;rw[C9]at w1
 have w1':jG 5 fV ((ws (cX K)).map .int) (nE n (some (.sh (.lst ((ws (cX K)).map .int)))) (some (.ow ((sg++cX K).map .int))) (some (.sh (.int 0))) none none none none)=.nx (nE n (some (.sh (.lst ((ws (cX K)).map .int)))) (some (.ow ((sg++cX K).map .int))) (some (.sh (.int (cv (cX K))))) x1 none none none):=w1
 obtain⟨W,hW⟩:∃ W,W=ws (cX K):=⟨_,rfl⟩
 obtain⟨R1,hR1⟩:∃ R1,R1=sg++cX K:=⟨_,rfl⟩
 have hR1l:R1.length<=6:=by rw[hR1];simp;omega
 obtain⟨V1,hV1⟩:∃ V1,V1=cv (cX K):=⟨_,rfl⟩
 rw[<- hW,<- hR1,<- hV1]at w1';rw[<- hW]at c1 c2;rw[<- hW,<- hR1]at c3
 have c4:∃ x2,bf (aB (mOp gEq (mOp cI (mOp dH (ao 0) (mC (.int 17))) (mC (.int 3))) (mC (.int 1)))) (aG (eE 3 (mC (.int 46))) (u2 5 (Iq (b5 (ak (mOp cI (mOp dH (ao 0) (mC (.int 19))) (mC (.int 10))) (ak (mOp cI (mOp dH (ao 0) (mC (.int 23))) (mC (.int 4))) (ak (mC (.int 0)) aJ)))) (mC .non) (Ck (mOp dZ (mC (.int 1)) (mOp cI (mOp dH (ao 0) (mC (.int 29))) (mC (.int 3)))))) g9)) aS
   (nE n (some (.sh (.lst (W.map .int)))) (some (.ow (R1.map .int))) (some (.sh (.int V1))) x1 (some (.sh (.int 0))) none none) =
   .nx (nE n (some (.sh (.lst (W.map .int)))) (some (.ow ((R1++frB (bY n)).map .int))) (some (.sh (.int ((bY n).foldl (fun n d=>10*n+d - 48) V1)))) x2 (some (.sh (.int (-((bY n).length:Int))))) none none):=by
  by_cases h17:n/17%3=1
  . obtain⟨L,hL⟩:∃ L:List Int,L=([n/19%10,n/23%4,0]:List Int).take (1+n/29%3).toNat:=⟨_,rfl⟩
    have hLf:bY n=L.map (48+·):=by
     unfold bY;rw[if_pos h17,hL,List.map_take];simp
    have hLl:L.length=(1+n/29%3).toNat:=by rw[hL];simp;omega
    have hcut:Fz [PV.int (n/19%10),.int (n/23%4),.int 0] none (some (1+n/29%3))=L.map .int:=by
     have e1:BC 3 3 (some (1+n/29%3))=(1+n/29%3).toNat:=by
      unfold BC;dsimp only;rw[if_neg (by omega)];omega
     show([PV.int (n/19%10),.int (n/23%4),.int 0].drop 0).take (BC 3 3 (some (1+n/29%3)) - 0)=_
     rw[e1,hL,List.map_take];rfl
    obtain⟨x2,w2⟩:=wl2 L (R1++[46]) V1 0 (some (.sh (.int n))) (some (.sh (.bl (decide (n%3=0))))) (some (.sh (.lst (W.map .int)))) x1 none none (by simp;omega)
    refine⟨x2,?_⟩
    have hne:bY n≠[]:=by
     rw[hLf];intro z;have:=congrArg List.length z;simp[hLl]at this;omega
    have hfold:L.foldl (fun n d=>n*10+d) V1=(bY n).foldl (fun n d=>10*n+d - 48) V1:=by
     have:=C9 (bY n) V1;rw[<- this,hLf]
     congr 1
     unfold ws;rw[List.map_map]
     conv=>lhs;rw[<- List.map_id L]
     refine List.map_congr_left fun x _=>?_
     show x=48+x - 48;omega
    have hrow:R1++[46]++L.map (48+·)=R1++frB (bY n):=by
     unfold frB;rw[if_neg hne,hLf];simp
    rw[hfold,hrow]at w2
    have hlen:(0:Int) - (L.length:Int)=-((bY n).length:Int):=by rw[hLf];simp
    rw[hlen]at w2
    have hl1:R1.length<lim:=oz (by omega)
    have w2':=w2
    simp only[List.map_append,List.map_cons,List.map_nil]at w2';simp -implicitDefEqProofs [h17,hl1,hcut,w2']
  . refine⟨x1,?_⟩
    have hf:bY n=[]:=by unfold bY;rw[if_neg h17]
    rw[hf];simp -implicitDefEqProofs [h17,frB]
 obtain⟨x2,c4⟩:=c4
 obtain⟨R2,hR2⟩:∃ R2,R2=R1++frB (bY n):=⟨_,rfl⟩
 have hR2l:R2.length<=10:=by
  rw[hR2];unfold frB
  split<;>simp<;>omega
 have hV2:(bY n).foldl (fun n d=>10*n+d - 48) V1=cv (cX K++bY n):=by rw[FQ,hV1]
 rw[hV2,<- hR2]at c4
 obtain⟨V2,hV2e⟩:∃ V2,V2=cv (cX K++bY n):=⟨_,rfl⟩
 rw[<- hV2e]at c4
 have c5:∃ y z,bf (aB (mOp gEq (mOp cI (mOp dH (ao 0) (mC (.int 31))) (mC (.int 3))) (mC (.int 1)))) (aG (bq 7 (mOp cI (mOp dH (ao 0) (mC (.int 37))) (mC (.int 30)))) (aG (eE 3 (mOp gN (b5 (ak (mC (.int 101)) (ak (mC (.int 69)) aJ))) (mOp cI (mOp dH (ao 0) (mC (.int 41))) (mC (.int 2))))) (aG (bq 8 (mOp gEq (mOp cI (mOp dH (ao 0) (mC (.int 43))) (mC (.int 3))) (mC (.int 1)))) (aG (bf (cU (ao 8)) (eE 3 (mC (.int 45))) (bf (aB (mOp gEq (mOp cI (mOp dH (ao 0) (mC (.int 43))) (mC (.int 3))) (mC (.int 2)))) (eE 3 (mC (.int 43))) aS)) (aG (bf (aB (mOp gEq (mOp cI (mOp dH (ao 0) (mC (.int 47))) (mC (.int 4))) (mC (.int 1)))) (eE 3 (mC (.int 48))) aS) (aG (bq 3 (mOp nB (ao 3) (qM (mUn qk (ao 7)) [] fU))) (bq 6 (mOp dZ (ao 6) (gG (cU (ao 8)) (mUn hZ (ao 7)) (ao 7)))))))))) aS
   (nE n (some (.sh (.lst (W.map .int)))) (some (.ow (R2.map .int))) (some (.sh (.int V2))) x2 (some (.sh (.int (-((bY n).length:Int))))) none none) =
   .nx (nE n (some (.sh (.lst (W.map .int)))) (some (.ow ((R2++exB (gH n)).map .int))) (some (.sh (.int V2))) x2 (some (.sh (.int (exV (gH n) - (bY n).length)))) y z):=by
  by_cases h31:n/31%3=1
  . obtain⟨M,hM⟩:∃ M:Nat,M=(n/37%30).toNat:=⟨_,rfl⟩
    have hM1:n/37%30=(M:Int):=by omega
    refine⟨some (.sh (.int (M:Int))),some (.sh (.bl (decide (n/43%3=1)))),?_⟩
    obtain⟨eb,heb⟩:∃ eb:Int,eb=if n/41%2=0 then 101 else 69:=⟨_,rfl⟩
    obtain⟨sx,hsx⟩:∃ sx:List Int,sx=if n/43%3=1 then[45]else if n/43%3=2 then[43]else[]:=⟨_,rfl⟩
    obtain⟨zx,hzx⟩:∃ zx:List Int,zx=if n/47%4=1 then[48]else[]:=⟨_,rfl⟩
    have hex:gH n=some (eb,sx,zx++cX M):=by unfold gH;rw[if_pos h31,heb,hsx,hzx,hM]
    have hsxl:sx.length <= 1:=by rw [hsx]; split
                                 . simp
                                 . split<;>simp
    have hzxl:zx.length<=1:=by rw[hzx];split<;>simp
    have hml:=p8 4 M (by omega)
    have hat:atP [PV.int 101,.int 69] (n/41%2)=some (.int eb):=by
     have:n/41%2=0 \/ n/41%2=1:=by omega
     rw[heb]
     rcases this with h|h<;>rw[h]<;>rfl
    have hcvz:cv (zx++cX M)=(M:Int):=by
     have:cv (cX M)=M:=Hj M
     rw[hzx];split
     . rw[FQ];exact this
     . exact this
    have hexv:exV (gH n)=if n/43%3=1 then -(M:Int)else(M:Int):=by
     rw[hex];show sv sx (zx++cX M)=_;unfold sv;rw[hcvz,hsx]
     by_cases h1:n/43%3=1
     . simp[h1]
     . by_cases h2:n/43%3=2<;>simp[h1,h2]
    have l1:R2.length<lim:=oz (by omega)
    have l2:R2.length+1<lim:=oz (by omega)
    obtain⟨R3,hR3⟩:∃ R3,R3=R2++[eb]:=⟨_,rfl⟩
    have g1:eE 3 (mOp gN (b5 (ak (mC (.int 101)) (ak (mC (.int 69)) aJ))) (mOp cI (mOp dH (ao 0) (mC (.int 41))) (mC (.int 2)))) (nE n (some (.sh (.lst (W.map .int)))) (some (.ow (R2.map .int))) (some (.sh (.int V2))) x2 (some (.sh (.int (-((bY n).length:Int))))) (some (.sh (.int (M:Int)))) none)=.nx (nE n (some (.sh (.lst (W.map .int)))) (some (.ow (R3.map .int))) (some (.sh (.int V2))) x2 (some (.sh (.int (-((bY n).length:Int))))) (some (.sh (.int (M:Int)))) none):=by
     rw[hR3];simp -implicitDefEqProofs [hat,l1]
    have hR3l:R3.length<=11:=by rw[hR3];simp;omega
    have l3:R3.length<lim:=oz (by omega)
    obtain⟨R4,hR4⟩:∃ R4,R4=R3++sx:=⟨_,rfl⟩
    have g2:bf (cU (ao 8)) (eE 3 (mC (.int 45))) (bf (aB (mOp gEq (mOp cI (mOp dH (ao 0) (mC (.int 43))) (mC (.int 3))) (mC (.int 2)))) (eE 3 (mC (.int 43))) aS) (nE n (some (.sh (.lst (W.map .int)))) (some (.ow (R3.map .int))) (some (.sh (.int V2))) x2 (some (.sh (.int (-((bY n).length:Int))))) (some (.sh (.int (M:Int)))) (some (.sh (.bl (decide (n/43%3=1))))))=.nx (nE n (some (.sh (.lst (W.map .int)))) (some (.ow (R4.map .int))) (some (.sh (.int V2))) x2 (some (.sh (.int (-((bY n).length:Int))))) (some (.sh (.int (M:Int)))) (some (.sh (.bl (decide (n/43%3=1)))))):=by
     rw[hR4,hsx]
     by_cases h1:n/43%3=1
     . simp -implicitDefEqProofs [h1,l3]
     . by_cases h2:n/43%3=2<;>simp -implicitDefEqProofs [h1,h2,l3]
    have hR4l:R4.length<=12:=by rw[hR4];simp;omega
    have l4:R4.length<lim:=oz (by omega)
    obtain⟨R5,hR5⟩:∃ R5,R5=R4++zx:=⟨_,rfl⟩
    have g3:bf (aB (mOp gEq (mOp cI (mOp dH (ao 0) (mC (.int 47))) (mC (.int 4))) (mC (.int 1)))) (eE 3 (mC (.int 48))) aS (nE n (some (.sh (.lst (W.map .int)))) (some (.ow (R4.map .int))) (some (.sh (.int V2))) x2 (some (.sh (.int (-((bY n).length:Int))))) (some (.sh (.int (M:Int)))) (some (.sh (.bl (decide (n/43%3=1))))))=.nx (nE n (some (.sh (.lst (W.map .int)))) (some (.ow (R5.map .int))) (some (.sh (.int V2))) x2 (some (.sh (.int (-((bY n).length:Int))))) (some (.sh (.int (M:Int)))) (some (.sh (.bl (decide (n/43%3=1)))))):=by
     rw[hR5,hzx]
     by_cases h1:n/47%4=1<;>simp -implicitDefEqProofs [h1,l4]
    have hR5l:R5.length<=13:=by rw[hR5];simp;omega
    have l5:R5.length+(cX M).length<=lim:=fj (by omega)
    have hcs:=zV (me:=fU) (f:=fun c=>.int (c:Int)) M (by omega) (fun c _=>Mg c) (ao 7) (nE n (some (.sh (.lst (W.map .int)))) (some (.ow (R5.map .int))) (some (.sh (.int V2))) x2 (some (.sh (.int (-((bY n).length:Int))))) (some (.sh (.int (M:Int)))) (some (.sh (.bl (decide (n/43%3=1)))))) (by simp)
    have hdd:(dN M).map (fun c:Nat=>PV.int (c:Int))=(cX M).map .int:=by rw[<- vo,List.map_map];rfl
    rw[hdd]at hcs
    have g4:bq 3 (mOp nB (ao 3) (qM (mUn qk (ao 7)) [] fU)) (nE n (some (.sh (.lst (W.map .int)))) (some (.ow (R5.map .int))) (some (.sh (.int V2))) x2 (some (.sh (.int (-((bY n).length:Int))))) (some (.sh (.int (M:Int)))) (some (.sh (.bl (decide (n/43%3=1))))))=.nx (nE n (some (.sh (.lst (W.map .int)))) (some (.ow ((R5++cX M).map .int))) (some (.sh (.int V2))) x2 (some (.sh (.int (-((bY n).length:Int))))) (some (.sh (.int (M:Int)))) (some (.sh (.bl (decide (n/43%3=1)))))):=by
     simp -implicitDefEqProofs only[B3,Jv,hcs,Bf,List.getElem?_cons_succ,List.getElem?_cons_zero,q9,EY,GG,L5,List.length_map,l5,if_true,yp,hU,IX,List.set_cons_succ,List.set_cons_zero,List.map_append]
    have hRex:R5++cX M=R2++exB (gH n):=by
     rw[hex,hR5,hR4,hR3];show _=R2++(eb ::(sx++(zx++cX M)));simp
    rw[hRex]at g4
    have g5:bq 6 (mOp dZ (ao 6) (gG (cU (ao 8)) (mUn hZ (ao 7)) (ao 7))) (nE n (some (.sh (.lst (W.map .int)))) (some (.ow ((R2++exB (gH n)).map .int))) (some (.sh (.int V2))) x2 (some (.sh (.int (-((bY n).length:Int))))) (some (.sh (.int (M:Int)))) (some (.sh (.bl (decide (n/43%3=1))))))=.nx (nE n (some (.sh (.lst (W.map .int)))) (some (.ow ((R2++exB (gH n)).map .int))) (some (.sh (.int V2))) x2 (some (.sh (.int (exV (gH n) - (bY n).length)))) (some (.sh (.int (M:Int)))) (some (.sh (.bl (decide (n/43%3=1)))))):=by
     rw[hexv];generalize (R2++exB (gH n)).map PV.int=RR
     by_cases h1:n/43%3=1
     . have e:-((bY n).length:Int) + -(M:Int)=-(M:Int) - (bY n).length:=by omega
       simp -implicitDefEqProofs [h1,e]
     . have e:-((bY n).length:Int)+(M:Int)=(M:Int) - (bY n).length:=by omega
       simp -implicitDefEqProofs [h1,e]
    have g0:bq 7 (mOp cI (mOp dH (ao 0) (mC (.int 37))) (mC (.int 30))) (nE n (some (.sh (.lst (W.map .int)))) (some (.ow (R2.map .int))) (some (.sh (.int V2))) x2 (some (.sh (.int (-((bY n).length:Int))))) none none)=.nx (nE n (some (.sh (.lst (W.map .int)))) (some (.ow (R2.map .int))) (some (.sh (.int V2))) x2 (some (.sh (.int (-((bY n).length:Int))))) (some (.sh (.int (M:Int)))) none):=by
     simp -implicitDefEqProofs [hM1]
    have g1b:bq 8 (mOp gEq (mOp cI (mOp dH (ao 0) (mC (.int 43))) (mC (.int 3))) (mC (.int 1))) (nE n (some (.sh (.lst (W.map .int)))) (some (.ow (R3.map .int))) (some (.sh (.int V2))) x2 (some (.sh (.int (-((bY n).length:Int))))) (some (.sh (.int (M:Int)))) none)=.nx (nE n (some (.sh (.lst (W.map .int)))) (some (.ow (R3.map .int))) (some (.sh (.int V2))) x2 (some (.sh (.int (-((bY n).length:Int))))) (some (.sh (.int (M:Int)))) (some (.sh (.bl (decide (n/43%3=1)))))):=by
     simp -implicitDefEqProofs
    have gt:aB (mOp gEq (mOp cI (mOp dH (ao 0) (mC (.int 31))) (mC (.int 3))) (mC (.int 1))) (nE n (some (.sh (.lst (W.map .int)))) (some (.ow (R2.map .int))) (some (.sh (.int V2))) x2 (some (.sh (.int (-((bY n).length:Int))))) none none)=.ok true:=by
     simp -implicitDefEqProofs [h31]
    rw[Bo,gt];simp only[eK,if_true,oa,g0,jj,g1,g1b,g2,g3,g4,g5]
  . refine⟨none,none,?_⟩
    have hex:gH n=none:=by unfold gH;rw[if_neg h31]
    rw[hex]
    have e:(0:Int) - ((bY n).length:Int)=-((bY n).length:Int):=by omega
    simp -implicitDefEqProofs [h31,exB,exV,e]
 obtain⟨y,z,c5⟩:=c5
 have hnb:R2++exB (gH n)=PG.nb (eO n):=by
  rw[hR2,hR1,hsg];show _=(if(decide (n%3=0))=true then[45]else[])++(cX (n/3%100000).toNat++(frB (bY n)++exB (gH n)));rw[<- hK];simp
 rw[hnb]at c5
 have hmw:(if n%3=0 then -V2 else V2)=mwV (eO n):=by
  rw[hV2e];show _=(if decide (n%3=0)=true then -cv (cX (n/3%100000).toNat++bY n)else cv (cX (n/3%100000).toNat++bY n));rw[<- hK];simp
 have c6:bf (cU (ao 1)) (bq 4 (mUn hZ (ao 4))) aS (nE n (some (.sh (.lst (W.map .int)))) (some (.ow ((PG.nb (eO n)).map .int))) (some (.sh (.int V2))) x2 (some (.sh (.int (exV (gH n) - (bY n).length)))) y z)=.nx (nE n (some (.sh (.lst (W.map .int)))) (some (.ow ((PG.nb (eO n)).map .int))) (some (.sh (.int (mwV (eO n))))) x2 (some (.sh (.int (exV (gH n) - (bY n).length)))) y z):=by
  rw[<- hmw]
  by_cases h:n%3=0<;>simp -implicitDefEqProofs [h]
 have hpl':fF [.int (mwV (eO n)),.int (exV (gH n) - (bY n).length)]=.ok (.sh (pairOf 20 (mwV (eO n)) (exV (gH n) - (bY n).length))):=hpl
 have c7:fin (kZ (nE n (some (.sh (.lst (W.map .int)))) (some (.ow ((PG.nb (eO n)).map .int))) (some (.sh (.int (mwV (eO n))))) x2 (some (.sh (.int (exV (gH n) - (bY n).length)))) y z))=.ok (.sh (.tup [.lst ((PG.nb (eO n)).map .int),pairOf 20 (mwV (eO n)) (exV (gH n) - (bY n).length)])):=by
  generalize PG.nb (eO n)=RR;simp -implicitDefEqProofs [kZ,lD,hpl']
 have c0:bq 1 (mOp gEq (mOp cI (ao 0) (mC (.int 3))) (mC (.int 0))) [some (.sh (.int n)),none,none,none,none,none,none,none,none]=.nx (nE n none none none none none none none):=by
  simp -implicitDefEqProofs
 have c3b:bq 4 (mC (.int 0)) (nE n (some (.ow (W.map .int))) (some (.ow (R1.map .int))) none none none none none)=.nx (nE n (some (.ow (W.map .int))) (some (.ow (R1.map .int))) (some (.sh (.int 0))) none none none none):=by simp -implicitDefEqProofs
 have c3c:iz 2 (u2 5 (ao 2) fV) (nE n (some (.ow (W.map .int))) (some (.ow (R1.map .int))) (some (.sh (.int 0))) none none none none)=.nx (nE n (some (.sh (.lst (W.map .int)))) (some (.ow (R1.map .int))) (some (.sh (.int V1))) x1 none none none):=by
  simp -implicitDefEqProofs [lD,w1']
 have c3d:bq 6 (mC (.int 0)) (nE n (some (.sh (.lst (W.map .int)))) (some (.ow (R1.map .int))) (some (.sh (.int V1))) x1 none none none)=.nx (nE n (some (.sh (.lst (W.map .int)))) (some (.ow (R1.map .int))) (some (.sh (.int V1))) x1 (some (.sh (.int 0))) none none):=by simp -implicitDefEqProofs
 simp -implicitDefEqProofs only[gg,sZ,CL,tE,List.map_cons,List.map_nil,List.length_cons,List.length_nil,List.replicate,List.cons_append,List.nil_append,oa,c0,jj,qp,c1,qa,c2,pX,c3,qN,c3b,pO,c3c,qH,c3d,qm,c4,qE,c5,pN,c6]
 exact c7
noncomputable def wc(j:Int):Int:=if j=0 then 32 else if j=1 then 9 else if j=2 then 10 else 13
noncomputable def lwh(n:Int):List Int:=if 0<n%4 then[]else(List.range (n/64%3+1).toNat).map fun k:Nat=>wc (n/4/(1+3*(k:Int))%4)
theorem LV(j:Int):wht (wc j)=true:=by
 unfold wc;split
 . rfl
 . split
   . rfl
   . split<;>rfl
theorem dF(n:Int):∀ b∈lwh n,wht b=true:=by
 unfold lwh;split
 . simp
 . intro b hb;obtain⟨k,_,rfl⟩:=List.mem_map.mp hb;exact LV _
theorem gj(n:Int):(lwh n).length<=3:=by
 unfold lwh;split
 . simp
 . simp;omega
theorem DS(n:Int)(j:Nat)(hj:j<3):kh [some (.sh (.int n)),some (.sh (.int j))]=.ok (.sh (.int (wc (n/4/(1+3*(j:Int))%4)))):=by
 have h:¬ (1+3*(j:Int))=0:=by omega
 obtain⟨r,hr⟩:∃ r,r=n/4/(1+3*(j:Int))%4:=⟨_,rfl⟩
 have h4:r=0 \/ r=1 \/ r=2 \/ r=3:=by omega
 rw[<- hr]
 have h5:0<(1+3*(j:Int)):=by omega
 have h6:(1+3*(j:Int))<1073741824:=by omega
 simp -implicitDefEqProofs [kh,h,h5,h6,<- hr]
 rcases h4 with h|h|h|h<;>rw[h]<;>rfl
theorem eC(n:Int):cF [.int n]=.ok (.fr ((lwh n).map .int)):=by
 have el:∀ m:Nat,m<=3->dc kh [some (.sh (.int n))] (cT m)=.ok ((List.range m).map fun j:Nat=>.int (wc (n/4/(1+3*(j:Int))%4))):=fun m hm=>by
  unfold cT
  refine kb _ fun j hj=>?_
  exact DS n j (by have:=List.mem_range.mp hj;omega)
 have h1:-4611686018427387904<=n/64%3+1 /\ n/64%3+1<4611686018427387904:=by omega
 by_cases h:0<n%4
 . simp[cF,pW,h,lwh]
 . have hp:(lwh n).map PV.int = (List.range (n / 64 % 3 + 1).toNat).map fun j:Nat=>.int (wc (n / 4 / (1 + 3 * (j:Int)) % 4)):=by
    unfold lwh;rw[if_neg h,List.map_map];rfl
   rw[hp];have h2:=el (n/64%3+1).toNat (by omega);simp -implicitDefEqProofs [cF,pW,h,dv,h2,h1];unfold lim;omega
noncomputable def lnm(ns:List Int)(n:Int):List Int:=if n%2=0 then[97+n/2%3]else PG.points ns (11+n/2%37)
theorem wy(ns:List Int)(n:Int):(lnm ns n).all nu=true /\ (lnm ns n).length<14:=by
 unfold lnm;split
 . refine⟨?_,by simp⟩
   have h:n/2%3=0 \/ n/2%3=1 \/ n/2%3=2:=by omega
   rcases h with h|h|h<;>rw[h]<;>decide
 . exact⟨qY _ _,sF _ _⟩
theorem oX(ns:List Int)(n:Int):ij [.lst (ns.map .int),.int n]=.ok (.fr ((lnm ns n).map .int)):=by
 unfold lnm
 by_cases h:n%2=0
 . simp[ij,sm,h]
 . simp[ij,sm,h,ik]
noncomputable def gw(ns:List Int)(n:Int):Lf:=
 if n/5%6=0 then .wd .null else if n/5%6=1 then .wd .tru else if n/5%6=2 then .wd .fal
 else if n/5%6=3 then .tx (lts (PG.points ns (7+n%41)) (n/30) 0)else .nm (eO (n/7))
noncomputable def lfK:Lf->String
 |.wd .null=>"null" | .wd .tru=>"true" | .wd .fal=>"false" | .tx _=>"text" | .nm _=>"number"
theorem y9(ns:List Int)(n:Int):Lok (gw ns n):=by
 unfold gw;split
 . trivial
 . split
   . trivial
   . split
     . trivial
     . split
       . exact Gg _ _ _ (qY _ _)
       . exact AL _
theorem yO(k:Nat)(n p:Int):∃ a b,pairOf k n p=.tup [.int a,.int b]:=by
 unfold pairOf;split
 . exact⟨_,_,rfl⟩
 . exact⟨_,_,rfl⟩
noncomputable def eL(row:List Int):OV:=.ol (row.map fun b=>.sh (.int b))
noncomputable def kS(k:Bool):PV:=.str (if k then "row" else "fields")
noncomputable def frO(k:Bool)(items:List PV)(i:Nat)(nm:List Int):OV:=.ol [.sh (kS k),.ol (items.map .sh),.sh (.int i),.sh (.tup (nm.map .int))]
noncomputable def ndO(s:PV)(a b c:Int):OV:=.ol [.sh s,.sh (.int a),.sh (.int b),.sh (.int c)]
noncomputable def brk(k:Bool):Int:=if k then 93 else 125
theorem Ae(xs:List PV):xg (xs.map .sh)=some xs:=by
 induction xs with
 |nil=>rfl
 |cons x xs ih=>simp[xg,ih]
noncomputable abbrev cE(r:OV)(ns fs:List OV)(a b:Option Sl):ag:=[some (.tr true r),some (.tr true (.ol ns)),some (.tr true (.ol fs)),a,b]
theorem xA(row:List Int)(nodes fs:List OV)(k:Bool)(items:List PV)(i:Nat)(nm:List Int)(s:PV)(a b c:Int)(hi:nodes[i]?=some (ndO s a b c))(hr:row.length<100000)(hn:nodes.length<100000):
  p6 (cE (eL row) nodes (fs++[frO k items i nm]) none none) =
   ky (cE (eL (row++[brk k])) (nodes.set i (ndO s a (row.length+1) nodes.length)) fs (some (.tr false (frO k items i nm))) none):=by
 have hil:i<nodes.length:=by
  rcases Nat.lt_or_ge i nodes.length with z|z
  . exact z
  . rw[List.getElem?_eq_none z]at hi;cases hi
 have e0:iE 3 (mR 2 aI) (cE (eL row) nodes (fs++[frO k items i nm]) none none) =
   .nx (cE (eL row) nodes fs (some (.tr false (frO k items i nm))) none):=by
  unfold iE;rw[IU (ts:=fs) (x:=frO k items i nm) rfl];simp[frO,slO,nio]
 have p3:∀(x y z u:Option Sl) (ix:ag->OE) (j:Nat) (v:OV),ix [x,y,z,some (.tr false (frO k items i nm)),u]=.ok (.sh (.int j))->j<4->[OV.sh (kS k),.ol (items.map .sh),.sh (.int i),.sh (.tup (nm.map .int))][j]?=some v->subAt 3 (pIx 3 aI ix) [x,y,z,some (.tr false (frO k items i nm)),u]=some v:=fun x y z u ix j v h1 h2 h3=>
  subAt_one (bO rfl rfl) (lJ (bO rfl rfl) h1 rfl (by simp[ixP];omega)) h3
 unfold p6;rw[bt e0];unfold rN
 have hd:∀(x y z u:Option Sl),mD (gG (aB (mOp gEq (de 3 (pIx 3 aI (mC (.int 0)))) (mC (.str "row")))) (mC (.int 93)) (mC (.int 125))) [x,y,z,some (.tr false (frO k items i nm)),u]=.ok (.sh (.int (brk k))):=fun x y z u=>by
  have:=ou (p3 x y z u (mC (.int 0)) 0 (.sh (kS k)) rfl (by omega) rfl)
  cases k<;>simp -implicitDefEqProofs [mD,gG,aB,this,kS,brk,gEq,eqS,aH]
 have e1:bR 0 aI (mD (gG (aB (mOp gEq (de 3 (pIx 3 aI (mC (.int 0)))) (mC (.str "row")))) (mC (.int 93)) (mC (.int 125)))) (cE (eL row) nodes fs (some (.tr false (frO k items i nm))) none) =
   .nx (cE (eL (row++[brk k])) nodes fs (some (.tr false (frO k items i nm))) none):=by
  rw[vD (ts:=row.map fun b=>.sh (.int b)) rfl (hd _ _ _ _) (by rw[List.length_map];exact fj (n:=row.length+1) (by omega))];simp[eL]
 rw[bt e1]
 have px:∀(x z u:Option Sl) (ns:List OV),ns.length=nodes.length->pIx 1 aI (de 3 (pIx 3 aI (mC (.int 2)))) [x,some (.tr true (.ol ns)),z,some (.tr false (frO k items i nm)),u]=some [.ix i]:=fun x z u ns hns=>
  lJ (bO rfl rfl) (ou (p3 x _ z u (mC (.int 2)) 2 (.sh (.int i)) rfl (by omega) rfl)) rfl (by simp[ixP];omega)
 unfold rL
 have e2:qj 1 (pIx 1 aI (de 3 (pIx 3 aI (mC (.int 2))))) (mC (.int 2)) (mD (gJ 0 aI)) (cE (eL (row++[brk k])) nodes fs (some (.tr false (frO k items i nm))) none) =
   .nx (cE (eL (row++[brk k])) (nodes.set i (ndO s a (row.length+1) c)) fs (some (.tr false (frO k items i nm))) none):=by
  have hl:=wI (jq (ρ:=(cE (eL (row++[brk k])) nodes fs (some (.tr false (frO k items i nm))) none)) (i:=0) (bO rfl rfl));rw[vp (j2:=2) rfl (px _ _ _ nodes rfl) hi rfl rfl rfl (x:=.sh (.int (row.length+1))) (by unfold mD;rw[hl];simp)];rfl
 rw[bt e2];unfold r6
 have e3:qj 1 (pIx 1 aI (de 3 (pIx 3 aI (mC (.int 2))))) (mC (.int 3)) (mD (gJ 1 aI)) (cE (eL (row++[brk k])) (nodes.set i (ndO s a (row.length+1) c)) fs (some (.tr false (frO k items i nm))) none) =
   .nx (cE (eL (row++[brk k])) (nodes.set i (ndO s a (row.length+1) nodes.length)) fs (some (.tr false (frO k items i nm))) none):=by
  have hl:=wI (jq (ρ:=(cE (eL (row++[brk k])) (nodes.set i (ndO s a (row.length+1) c)) fs (some (.tr false (frO k items i nm))) none)) (i:=1) (bO rfl rfl))
  have hi2:(nodes.set i (ndO s a (row.length+1) c))[i]?=some (ndO s a (row.length+1) c):=by simp[hil]
  rw[vp (j2:=3) rfl (px _ _ _ _ (by simp)) hi2 rfl rfl rfl (x:=.sh (.int nodes.length)) (by unfold mD;rw[hl];simp)];simp[ndO]
 rw[bt e3]
theorem xD(x y z:Option Sl)(k:Bool)(items:List PV)(i:Nat)(nm:List Int)(hit:items.length<100000):
  bq 4 (fh (ak (de 3 (pIx 3 aI (mC (.int 0)))) (ak (mUn nM (de 3 (pIx 3 aI (mC (.int 1))))) aJ))) [x,y,z,some (.tr false (frO k items i nm)),none] =
   .nx [x,y,z,some (.tr false (frO k items i nm)),some (.sh (.tup [kS k,.tup items]))]:=by
 have p3:∀(ix:ag->OE) (j:Nat) (v:OV),ix [x,y,z,some (.tr false (frO k items i nm)),none]=.ok (.sh (.int j))->j<4->[OV.sh (kS k),.ol (items.map .sh),.sh (.int i),.sh (.tup (nm.map .int))][j]?=some v->subAt 3 (pIx 3 aI ix) [x,y,z,some (.tr false (frO k items i nm)),none]=some v:=fun ix j v h1 h2 h3=>
  subAt_one (bO rfl rfl) (lJ (bO rfl rfl) h1 rfl (by simp[ixP];omega)) h3
 have h0:=ou (p3 (mC (.int 0)) 0 (.sh (kS k)) rfl (by omega) rfl)
 have h1:de 3 (pIx 3 aI (mC (.int 1))) [x,y,z,some (.tr false (frO k items i nm)),none]=.ok (.al items):=by
  unfold de;rw[p3 (mC (.int 1)) 1 (.ol (items.map .sh)) rfl (by omega) rfl];simp only[Ae]
 simp -implicitDefEqProofs [bq,h0,h1,nM]
theorem Bk(row:List Int)(nodes:List OV)(k:Bool)(items:List PV)(i:Nat)(nm:List Int)(s:PV)(a b c:Int)(hi:nodes[i]?=some (ndO s a b c))(hr:row.length<100000)(hn:nodes.length<100000)(hit:items.length<100000):
  cW [.tr true (eL row),.tr true (.ol nodes),.tr true (.ol [frO k items i nm])] =
   .ok (.tup [kS k,.tup items]) [some (eL (row++[brk k])),some (.ol (nodes.set i (ndO s a (row.length+1) nodes.length))),some (.ol [])]:=by
 unfold cW fnI;have e:=xA row nodes [] k items i nm s a b c hi hr hn;rw[List.nil_append]at e
 have e0:lg 5 [.tr true (eL row),.tr true (.ol nodes),.tr true (.ol [frO k items i nm])]=(cE (eL row) nodes [frO k items i nm] none none):=rfl
 rw[if_pos (show List.length [Sl.tr true (eL row),Sl.tr true (.ol nodes),Sl.tr true (.ol [frO k items i nm])]=3 from rfl),e0,e];unfold ky;rw[bt (xD _ _ _ k items i nm hit)];unfold nF;have h:=vY (jq (ρ:=(cE (eL (row++[brk k])) (nodes.set i (ndO s a (row.length+1) nodes.length)) [] (some (.tr false (frO k items i nm))) (some (.sh (.tup [kS k,.tup items]))))) (i:=2) (bO rfl rfl));simp -implicitDefEqProofs [bf,h,km,gz,uh,qC]
theorem Bq(row:List Int)(nodes gs:List OV)(k k':Bool)(items items':List PV)(i i':Nat)(nm nm':List Int)(s s2:PV)(a b c a2 b2 c2:Int)(hi:nodes[i]?=some (ndO s a b c))(hr:row.length<100000)(hn:nodes.length<100000)(hit:items.length<100000)(hit':items'.length<100000)
  (h2:k'=false->1<=i /\ nodes[i - 1]?=some (ndO s2 a2 b2 c2)):
  cW [.tr true (eL row),.tr true (.ol nodes),.tr true (.ol (gs++[frO k' items' i' nm']++[frO k items i nm]))] =
   .ok (.tup [kS k,.tup items]) [some (eL (row++[brk k])),some (.ol (if k' then nodes.set i (ndO s a (row.length+1) nodes.length)else(nodes.set i (ndO s a (row.length+1) nodes.length)).set (i - 1) (ndO s2 a2 b2 nodes.length))),
    some (.ol (gs++[frO k' (items'++[if k' then .tup [kS k,.tup items]else .tup [.tup (nm.map .int),.tup [kS k,.tup items]]]) i' nm']))]:=by
 have hil:i<nodes.length:=by
  rcases Nat.lt_or_ge i nodes.length with z|z
  . exact z
  . rw[List.getElem?_eq_none z]at hi;cases hi
 unfold cW fnI;have e:=xA row nodes (gs++[frO k' items' i' nm']) k items i nm s a b c hi hr hn
 have e0:lg 5 [.tr true (eL row),.tr true (.ol nodes),.tr true (.ol (gs++[frO k' items' i' nm']++[frO k items i nm]))]=(cE (eL row) nodes (gs++[frO k' items' i' nm']++[frO k items i nm]) none none):=rfl
 rw[if_pos (show List.length [Sl.tr true (eL row),Sl.tr true (.ol nodes),Sl.tr true (.ol (gs++[frO k' items' i' nm']++[frO k items i nm]))]=3 from rfl),e0,e];unfold ky;rw[bt (xD _ _ _ k items i nm hit)];unfold nF;generalize hN:nodes.set i (ndO s a (row.length+1) nodes.length)=N
 have hNl:N.length=nodes.length:=by rw[<- hN];simp
 generalize hv:PV.tup [kS k,.tup items]=val;generalize hR:eL (row++[brk k])=R;have h:=vY (jq (ρ:=(cE R N (gs++[frO k' items' i' nm']) (some (.tr false (frO k items i nm))) (some (.sh val)))) (i:=2) (bO rfl rfl))
 have hg:∀ u:OV,(gs++[u])[gs.length]?=some u:=fun u=>by simp
 have px:∀(x y w v:Option Sl) (u:OV),pIx 2 aI (mUn hZ (mC (.int 1))) [x,y,some (.tr true (.ol (gs++[u]))),w,v]=some [.ix gs.length]:=fun x y w v u=>
  lJ (bO rfl rfl) (r:=.sh (.int (-1))) (by simp) rfl (by simp[ixP];omega)
 have p0:∀(x y w v:Option Sl) (its:List PV),de 2 (pIx 2 (pIx 2 aI (mUn hZ (mC (.int 1)))) (mC (.int 0))) [x,y,some (.tr true (.ol (gs++[frO k' its i' nm']))),w,v]=.ok (.sh (kS k')):=fun x y w v its=>
  ou (ug (bO rfl rfl) (yo (bO rfl rfl) (px _ _ _ _ _) (hg _) (k:=0) (j2:=0) rfl rfl rfl) (hg _) rfl)
 have e1:bR 2 (pIx 2 (pIx 2 aI (mUn hZ (mC (.int 1)))) (mC (.int 1))) (mD (gG (aB (mOp gEq (de 2 (pIx 2 (pIx 2 aI (mUn hZ (mC (.int 1)))) (mC (.int 0)))) (mC (.str "row")))) (ao 4) (fh (ak (de 3 (pIx 3 aI (mC (.int 3)))) (ak (ao 4) aJ)))))
   (cE R N (gs++[frO k' items' i' nm']) (some (.tr false (frO k items i nm))) (some (.sh val))) =
   .nx (cE R N (gs++[frO k' (items'++[if k' then val else .tup [.tup (nm.map .int),val]]) i' nm']) (some (.tr false (frO k items i nm))) (some (.sh val))):=by
  have p3:de 3 (pIx 3 aI (mC (.int 3))) (cE R N (gs++[frO k' items' i' nm']) (some (.tr false (frO k items i nm))) (some (.sh val)))=.ok (.sh (.tup (nm.map .int))):=
   ou (subAt_one (bO rfl rfl) (lJ (bO rfl rfl) (k:=3) (j:=3) rfl rfl rfl) rfl)
  have hd:mD (gG (aB (mOp gEq (de 2 (pIx 2 (pIx 2 aI (mUn hZ (mC (.int 1)))) (mC (.int 0)))) (mC (.str "row")))) (ao 4) (fh (ak (de 3 (pIx 3 aI (mC (.int 3)))) (ak (ao 4) aJ))))
    (cE R N (gs++[frO k' items' i' nm']) (some (.tr false (frO k items i nm))) (some (.sh val)))=.ok (.sh (if k' then val else .tup [.tup (nm.map .int),val])):=by
   have q0:=p0 (some (.tr true R)) (some (.tr true (.ol N))) (some (.tr false (frO k items i nm))) (some (.sh val)) items'
   cases k'<;>simp -implicitDefEqProofs [mD,gG,aB,q0,p3,kS,gEq,eqS,aH]
  rw[Cp (j:=gs.length) (j2:=1) rfl (yo (bO rfl rfl) (px _ _ _ _ _) (hg _) (k:=1) (j2:=1) rfl rfl rfl) (hg _) (xs:=items'.map .sh) rfl hd (by rw[List.length_map];exact fj (n:=items'.length+1) (by omega))];simp[frO]
 cases k' with
 | true=>
   have q0:=p0 (some (.tr true R)) (some (.tr true (.ol N))) (some (.tr false (frO k items i nm))) (some (.sh val)) (items'++[val]);rw[if_pos rfl]at e1
   have hb:(!(gs++[frO true items' i' nm']).isEmpty)=true:=by simp
   rw[hb]at h;refine Eq.trans (congrArg _ (bt (ρ':=(cE R N (gs++[frO true (items'++[val]) i' nm']) (some (.tr false (frO k items i nm))) (some (.sh val)))) ?_)) ?_
   . unfold bf;rw[h];refine Eq.trans (bt e1) ?_;simp -implicitDefEqProofs [bf,aB,q0,kS,gEq,eqS,aH]
   . simp -implicitDefEqProofs [km,gz,uh,qC]
 | false=>
   obtain⟨h1,h3⟩:=h2 rfl;have q0:=p0 (some (.tr true R)) (some (.tr true (.ol N))) (some (.tr false (frO k items i nm))) (some (.sh val)) (items'++[.tup [.tup (nm.map .int),val]]);rw[if_neg (by simp)]at e1
   have hb:(!(gs++[frO false items' i' nm']).isEmpty)=true:=by simp
   rw[hb]at h
   have hN1:N[i - 1]?=some (ndO s2 a2 b2 c2):=by rw[<- hN,List.getElem?_set_ne (by omega)];exact h3
   have hp2:mOp xp (de 3 (pIx 3 aI (mC (.int 2)))) (mC (.int 1)) (cE R N (gs++[frO false (items'++[.tup [.tup (nm.map .int),val]]) i' nm']) (some (.tr false (frO k items i nm))) (some (.sh val)))=.ok (.sh (.int (i - 1:Int))):=by
    have q2:=ou (ρ:=(cE R N (gs++[frO false (items'++[.tup [.tup (nm.map .int),val]]) i' nm']) (some (.tr false (frO k items i nm))) (some (.sh val)))) (i:=3) (mp:=pIx 3 aI (mC (.int 2))) (x:=.int i) (subAt_one (bO rfl rfl) (lJ (bO rfl rfl) (k:=2) (j:=2) rfl rfl rfl) rfl);simp[q2]
   have hl:=wI (jq (ρ:=(cE R N (gs++[frO false (items'++[.tup [.tup (nm.map .int),val]]) i' nm']) (some (.tr false (frO k items i nm))) (some (.sh val)))) (i:=1) (bO rfl rfl))
   have e3:=vp (ρ:=(cE R N (gs++[frO false (items'++[.tup [.tup (nm.map .int),val]]) i' nm']) (some (.tr false (frO k items i nm))) (some (.sh val)))) (i:=1) (io:=true) (ts:=N) (j:=i - 1) (j2:=3) (mk:=mC (.int 3)) (md:=mD (gJ 1 aI)) (x:=.sh (.int N.length)) rfl
    (lJ (i:=1) (ts:=N) (bO (s:=.tr true (.ol N)) rfl rfl) hp2 rfl (by rw[show((i:Int) - 1)=((i - 1:Nat):Int) by omega];unfold ixP;rw[if_pos (by omega),if_pos (by omega)];simp)) hN1 rfl rfl rfl (by unfold mD;rw[hl])
   refine Eq.trans (congrArg _ (bt (ρ':=(cE R (N.set (i - 1) (ndO s2 a2 b2 N.length)) (gs++[frO false (items'++[.tup [.tup (nm.map .int),val]]) i' nm']) (some (.tr false (frO k items i nm))) (some (.sh val)))) ?_)) ?_
   . unfold bf;rw[h];refine Eq.trans (bt e1) ?_;simp -implicitDefEqProofs [bf,aB,q0,kS,gEq,eqS,aH];exact e3
   . rw[hNl];simp -implicitDefEqProofs [km,gz,uh,qC]
structure Fr where
 k:Bool
 items:List PV
 i:Nat
 nm:List Int
structure Nd where
 s:String
 a:Int
 b:Int
 c:Int
structure Bd where
 row:List Int
 nodes:List Nd
 frs:List Fr
 val:PV
noncomputable def Fr.o(f:Fr):OV:=frO f.k f.items f.i f.nm
noncomputable def Nd.o(d:Nd):OV:=ndO (.str d.s) d.a d.b d.c
noncomputable def kD(fs:List Fr):OV:=.ol (fs.reverse.map Fr.o)
noncomputable def mJ(ns:List Nd):OV:=.ol (ns.map Nd.o)
theorem lO(f:Fr)(fs:List Fr):kD (f ::fs)=.ol (fs.reverse.map Fr.o++[f.o]):=by simp[kD]
noncomputable def full:List Fr->Bool
 |f ::_=>!f.items.isEmpty
 |[]=>false
noncomputable def inF:List Fr->Bool
 |f ::_=>!f.k
 |[]=>false
theorem rJ{ρ:ag}{i:Nat}{io:Bool}{fs:List Fr}(h:ρ[i]?=some (some (.tr io (kD fs)))):dE i aI ρ=.ok (!fs.isEmpty):=by
 rw[vY (jq (bO h rfl))]
 cases fs<;>simp
theorem Hl{ρ:ag}{i:Nat}{io:Bool}{f:Fr}{fs:List Fr}(h:ρ[i]?=some (some (.tr io (kD (f ::fs))))):pIx i aI (mUn hZ (mC (.int 1))) ρ=some [.ix fs.length]:=by
 rw[lO]at h;exact lJ (bO h rfl) (r:=.sh (.int (-1))) (by simp) rfl (by simp[ixP];omega)
theorem vz(f:Fr)(fs:List Fr):(fs.reverse.map Fr.o++[f.o])[fs.length]?=some f.o:=by simp
theorem vU{ρ:ag}{i:Nat}{io:Bool}{f:Fr}{fs:List Fr}(k:Int)(j:Nat)(hk:k=j)(hj:j<4)(h:ρ[i]?=some (some (.tr io (kD (f ::fs))))):pIx i (pIx i aI (mUn hZ (mC (.int 1)))) (mC (.int k)) ρ=some [.ix fs.length,.ix j]:=by
 have h1:=Hl h;rw[lO]at h;subst hk;refine yo (bO h rfl) h1 (vz f fs) (k:=j) rfl rfl ?_;simp[ixP];omega
theorem FH{ρ:ag}{i:Nat}{io:Bool}{fs:List Fr}(h:ρ[i]?=some (some (.tr io (kD fs)))):
  fo (dE i aI) (aB (mOp gEq (de i (pIx i (pIx i aI (mUn hZ (mC (.int 1)))) (mC (.int 0)))) (mC (.str "fields")))) ρ=.ok (inF fs):=by
 cases fs with
 |nil=>simp[fo,rJ h,inF]
 | cons f fs=>
   have hi:=vU 0 0 rfl (by omega) h
   have h':=h
   rw[lO]at h';have hp:=ou (ug (bO h' rfl) hi (vz f fs) rfl)
   cases hk:f.k<;>simp -implicitDefEqProofs [fo,rJ h,inF,aB,hp,hk,kS,gEq,eqS,aH]
theorem Kd{ρ:ag}{i:Nat}{io:Bool}{fs:List Fr}(h:ρ[i]?=some (some (.tr io (kD fs)))):
  fo (dE i aI) (cU (de i (pIx i (pIx i aI (mUn hZ (mC (.int 1)))) (mC (.int 1))))) ρ=.ok (full fs):=by
 cases fs with
 |nil=>simp[fo,rJ h,full]
 | cons f fs=>
   have hi:=vU 1 1 rfl (by omega) h
   have h':=h
   rw[lO]at h'
   have hp:de i (pIx i (pIx i aI (mUn hZ (mC (.int 1)))) (mC (.int 1))) ρ=.ok (.al f.items):=by
    unfold de;rw[ug (bO h' rfl) hi (vz f fs) (u:=.ol (f.items.map .sh)) rfl];simp only[Ae]
   simp -implicitDefEqProofs [fo,rJ h,full,cU,hp,vb]
noncomputable def dA(fs:List Fr)(row:List Int)(n:Int):List Int:=row++lwh (n/3)++(if full fs then 44 ::lwh (n/11)else[])
noncomputable def iF(ns:List Int)(n:Int):List Sg:=lts (lnm ns (n/13)) (n/17) 0
noncomputable def oe(ns:List Int)(n:Int):List Int:=lwh (n/19)++58 ::lwh (n/23)
noncomputable def bx(ns:List Int)(B:Bd)(n:Int):List Int:=if inF B.frs then dA B.frs B.row n++PG.txt (iF ns n)++oe ns n else dA B.frs B.row n
noncomputable def aP(ns:List Int)(B:Bd)(n:Int):List Nd:=if inF B.frs then B.nodes++[⟨"name",(dA B.frs B.row n).length,(dA B.frs B.row n++PG.txt (iF ns n)).length,0⟩]else B.nodes
noncomputable def eN(ns:List Int)(B:Bd)(n:Int):List Int:=if inF B.frs then lnm ns (n/13)else[]
theorem vS(fs:List Fr)(row:List Int)(n:Int):(dA fs row n).length<=row.length+7:=by
 unfold dA;have h1:=gj (n/3);have h2:=gj (n/11)
 cases full fs<;>simp<;>omega
theorem Ct(l:List Int)(n:Int)(h:l.all nu=true)(h2:l.length<14):(PG.txt (lts l n 0)).length<=158:=by
 rcases Cn l n 0 with z|z
 . simp[PG.txt];omega
 . rw[h]at z;cases z
theorem xI(ns:List Int)(n:Int):(PG.txt (iF ns n)).length<=158:=Ct _ _ (wy ns _).1 (wy ns _).2
theorem qU(ns:List Int)(B:Bd)(n:Int):(bx ns B n).length<=B.row.length+180:=by
 unfold bx oe;have h1:=vS B.frs B.row n;have h2:=xI ns n;have h3:=gj (n/19);have h4:=gj (n/23)
 cases inF B.frs<;>simp<;>omega
theorem mZ{ρ:ag}{i:Nat}{io:Bool}{row ys:List Int}{me:ag->OE}(h:ρ[i]?=some (some (.tr io (eL row))))(he:me ρ=.ok (.fr (ys.map .int)) \/ me ρ=.ok (.sh (.lst (ys.map .int))))(hl:row.length+ys.length<=1000000):dP i aI me ρ=.nx (ρ.set i (some (.tr io (eL (row++ys))))):=by
 rw[GB (ts:=row.map fun b=>.sh (.int b)) h he (by rw[List.length_map,List.length_map];exact fj hl)];simp[eL,Function.comp_def]
theorem zo{ρ:ag}{i:Nat}{io:Bool}{row:List Int}{b:Int}{md:ag->OD}(h:ρ[i]?=some (some (.tr io (eL row))))(hd:md ρ=.ok (.sh (.int b)))(hl:row.length<1000000):bR i aI md ρ=.nx (ρ.set i (some (.tr io (eL (row++[b]))))):=by
 rw[vD (ts:=row.map fun b=>.sh (.int b)) h hd (by rw[List.length_map];exact fj (n:=row.length+1) (by omega))];simp[eL]
theorem yV{ρ:ag}{i:Nat}{io:Bool}{nds:List Nd}{d:Nd}{md:ag->OD}(h:ρ[i]?=some (some (.tr io (mJ nds))))(hd:md ρ=.ok d.o)(hl:nds.length<1000000):bR i aI md ρ=.nx (ρ.set i (some (.tr io (mJ (nds++[d]))))):=by
 rw[vD (ts:=nds.map Nd.o) h hd (by rw[List.length_map];exact fj (n:=nds.length+1) (by omega))];simp[mJ]
theorem vw{ρ:ag}{i:Nat}{io:Bool}{row:List Int}(h:ρ[i]?=some (some (.tr io (eL row)))):gJ i aI ρ=.ok (.sh (.int row.length)):=by
 rw[wI (jq (bO h rfl)),List.length_map]
theorem yq{ρ:ag}{i:Nat}{io:Bool}{nds:List Nd}(h:ρ[i]?=some (some (.tr io (mJ nds)))):gJ i aI ρ=.ok (.sh (.int nds.length)):=by
 rw[wI (jq (bO h rfl)),List.length_map]
noncomputable abbrev gE(ns row:List Int)(ds:List Nd)(fs:List Fr)(n:Int)(a b c:Option Sl):ag:=[some (.sh (.lst (ns.map .int))),some (.tr true (eL row)),some (.tr true (mJ ds)),some (.tr true (kD fs)),some (.sh (.int n)),a,b,c]
theorem Hd(ns:List Int)(B:Bd)(n:Int)(hr:B.row.length<100000)(hn:B.nodes.length<100000):
  fW [.sh (.lst (ns.map .int)),.tr true (eL B.row),.tr true (mJ B.nodes),.tr true (kD B.frs),.sh (.int n)] =
   .ok (.tup ((eN ns B n).map .int)) [none,some (eL (bx ns B n)),some (mJ (aP ns B n)),some (kD B.frs),none]:=by
 have hw:∀(ρ:ag) (d:Int),ρ[4]?=some (some (.sh (.int n)))->0<d->d<1000->bp cF (ak (mOp dH (ao 4) (mC (.int d))) aJ) ρ=.ok (.fr ((lwh (n/d)).map .int)):=fun ρ d h h1 h2=>by
  have h3:¬ d=0:=by omega
  have h4:d<1073741824:=by omega
  simp[h,h1,h3,h4,eC]
 have hbl:=vS B.frs B.row n
 have e0:mS (gE ns B.row B.nodes B.frs n none none none) =
   ny (gE ns (dA B.frs B.row n) B.nodes B.frs n (some (.sh (.tup []))) none none):=by
  unfold mS;rw[bt (mZ rfl (.inl (hw _ 3 rfl (by omega) (by omega))) (by have:=gj (n/3);omega))];unfold rM;rw[bt (ρ':=(gE ns (B.row++lwh (n/3)) B.nodes B.frs n (some (.sh (.tup []))) none none)) (by simp[bq])];unfold rK;refine bt ?_;unfold bf;rw[Kd (fs:=B.frs) rfl];have h3:=gj (n/3);have h11:=gj (n/11)
  cases hf:full B.frs with
  |false=>simp[dA,hf,aS]
  | true=>
    refine Eq.trans (bt (zo (row:=B.row++lwh (n/3)) rfl rfl (by simp;omega))) ?_;refine Eq.trans (mZ rfl (.inl (hw _ 11 rfl (by omega) (by omega))) (by simp;omega)) ?_;simp[dA,hf]
 unfold fW fnI;rw[if_pos (show List.length [Sl.sh (.lst (ns.map .int)),.tr true (eL B.row),.tr true (mJ B.nodes),.tr true (kD B.frs),.sh (.int n)]=5 from rfl)];show uh 5 (mS _)=_;rw[show lg 8 [.sh (.lst (ns.map .int)),.tr true (eL B.row),.tr true (mJ B.nodes),.tr true (kD B.frs),.sh (.int n)]=(gE ns B.row B.nodes B.frs n none none none) from rfl,e0];unfold ny
 cases hf:inF B.frs with
 | false=>
   rw[bt (ρ':=(gE ns (dA B.frs B.row n) B.nodes B.frs n (some (.sh (.tup []))) none none)) (by
    unfold bf;rw[FH (fs:=B.frs) rfl,hf]
    rfl)]
   simp[eN,bx,aP,hf,nA,gz,uh,qC]
 | true=>
   generalize hrow:dA B.frs B.row n=row;rw[hrow]at hbl;have ht:=xI ns n;have h19:=gj (n/19);have h23:=gj (n/23);have hnm:=oX ns (n/13);have htx:=j7 (lnm ns (n/13)) (n/17) (wy ns _).1 (by have:=(wy ns (n/13)).2;omega)
   change gd _=.ok (.fr ((PG.txt (iF ns n)).map .int))at htx
   rw[bt (ρ':=(gE ns (bx ns B n) (aP ns B n) B.frs n (some (.sh (.tup ((eN ns B n).map .int)))) (some (.sh (.lst ((lnm ns (n/13)).map .int)))) (some (.sh (.int row.length))))) (by
    unfold bf;rw[FH (fs:=B.frs) rfl,hf];show aG _ _ _=_;rw[bt (ρ':=(gE ns row B.nodes B.frs n (some (.sh (.tup []))) (some (.ow ((lnm ns (n/13)).map .int))) none)) (by simp[bq,hnm])];rw[bt (ρ':=(gE ns row B.nodes B.frs n (some (.sh (.tup ((eN ns B n).map .int)))) (some (.ow ((lnm ns (n/13)).map .int))) none)) (by simp[bq,nM,eN,hf])];rw[bt (ρ':=(gE ns row B.nodes B.frs n (some (.sh (.tup ((eN ns B n).map .int)))) (some (.ow ((lnm ns (n/13)).map .int))) (some (.sh (.int row.length))))) (by unfold bq;rw[vw (row:=row) rfl];simp)]
    rw[bt (ρ':=(gE ns (row++PG.txt (iF ns n)) B.nodes B.frs n (some (.sh (.tup ((eN ns B n).map .int)))) (some (.sh (.lst ((lnm ns (n/13)).map .int)))) (some (.sh (.int row.length))))) (by
     unfold iz
     exact mZ (row:=row) rfl (.inl (by simp[lD,htx])) (by omega))]
    rw[bt (yV (nds:=B.nodes) (d:=⟨"name",row.length,(row++PG.txt (iF ns n)).length,0⟩) rfl (by
     have:=vw (ρ:=(gE ns (row++PG.txt (iF ns n)) B.nodes B.frs n (some (.sh (.tup ((eN ns B n).map .int)))) (some (.sh (.lst ((lnm ns (n/13)).map .int)))) (some (.sh (.int row.length))))) (i:=1) (row:=row++PG.txt (iF ns n)) rfl
     simp[mD,this,Nd.o,ndO]) (by omega))]
    rw[bt (mZ (row:=row++PG.txt (iF ns n)) rfl (.inl (hw _ 19 rfl (by omega) (by omega))) (by simp;omega))];rw[bt (zo (row:=row++PG.txt (iF ns n)++lwh (n/19)) rfl rfl (by simp;omega))];rw[mZ (row:=row++PG.txt (iF ns n)++lwh (n/19)++[58]) rfl (.inl (hw _ 23 rfl (by omega) (by omega))) (by simp;omega)]
    simp[bx,aP,hf,hrow,oe])]
   simp[nA,gz,uh,qC]
noncomputable def lfV(ns:List Int)(n:Int):PV:=
 if n/5%6=0 then .non else if n/5%6=1 then .bl true else if n/5%6=2 then .bl false
 else if n/5%6=3 then .tup [.str "text",.tup ((PG.points ns (7+n%41)).map .int)]
 else match pairOf 20 (mwV (eO (n/7))) (exV (eO (n/7)).ex - (eO (n/7)).fr.length)with
  |.tup [.int a,.int b]=>.tup [.str "number",.int a,.int b]
  |_=>.non
theorem HY(ns:List Int)(n:Int)(hn:0<=n):cA [.lst (ns.map .int),.int n]=.ok (.sh (.tup [.str (lfK (gw ns n)),.lst ((lfb (gw ns n)).map .int),lfV ns n])):=by
 have e1:=ik ns (7+n%41);have e2:=j7 (PG.points ns (7+n%41)) (n/30) (qY _ _) (by have:=sF ns (7+n%41);omega);have e3:=lC (n/7) (by omega)
 have e0:cA [.lst (ns.map .int),.int n]=fin (lp [some (.sh (.lst (ns.map .int))),some (.sh (.int n)),some (.sh (.int (n/5%6))),none,none]):=by
  unfold cA fnP;rw[if_pos (show List.length [PV.lst (ns.map .int),.int n]=2 from rfl),show lS 5 [PV.lst (ns.map .int),.int n]=[some (.sh (.lst (ns.map .int))),some (.sh (.int n)),none,none,none] from rfl];unfold mT;rw[bt (ρ':=[some (.sh (.lst (ns.map .int))),some (.sh (.int n)),some (.sh (.int (n/5%6))),none,none]) (by simp[bq])]
 rw[e0]
 have no:∀ i:Int,¬ n/5%6=i->aB (mOp gEq (ao 2) (mC (.int i))) [some (.sh (.lst (ns.map .int))),some (.sh (.int n)),some (.sh (.int (n/5%6))),none,none]=.ok false:=fun i h=>by simp[aB,h]
 have yes:∀ i:Int,n/5%6=i->aB (mOp gEq (ao 2) (mC (.int i))) [some (.sh (.lst (ns.map .int))),some (.sh (.int n)),some (.sh (.int (n/5%6))),none,none]=.ok true:=fun i h=>by simp[aB,h]
 unfold gw lfV
 by_cases h0:n/5%6=0
 . rw[if_pos h0,if_pos h0];exact xa (ρ:=[some (.sh (.lst (ns.map .int))),some (.sh (.int n)),some (.sh (.int (n/5%6))),none,none]) (st (yes 0 h0) (by simp[lfK,lfb,wdb]))
 rw[if_neg h0,if_neg h0]
 by_cases h1:n/5%6=1
 . rw[if_pos h1,if_pos h1];exact xa (ρ:=[some (.sh (.lst (ns.map .int))),some (.sh (.int n)),some (.sh (.int (n/5%6))),none,none]) ((sk (no 0 h0)).trans (st (yes 1 h1) (by simp[lfK,lfb,wdb])))
 rw[if_neg h1,if_neg h1]
 by_cases h2:n/5%6=2
 . rw[if_pos h2,if_pos h2];exact xa (ρ:=[some (.sh (.lst (ns.map .int))),some (.sh (.int n)),some (.sh (.int (n/5%6))),none,none]) ((sk (no 0 h0)).trans ((sk (no 1 h1)).trans (st (yes 2 h2) (by simp[lfK,lfb,wdb]))))
 rw[if_neg h2,if_neg h2]
 by_cases h3:n/5%6=3
 . rw[if_pos h3,if_pos h3];exact xa (ρ:=[some (.sh (.lst (ns.map .int))),some (.sh (.int n)),some (.sh (.int (n/5%6))),some (.sh (.lst ((PG.points ns (7+n%41)).map .int))),none]) ((sk (no 0 h0)).trans ((sk (no 1 h1)).trans ((sk (no 2 h2)).trans (st (yes 3 h3) ((bt (ρ':=[some (.sh (.lst (ns.map .int))),some (.sh (.int n)),some (.sh (.int (n/5%6))),some (.ow ((PG.points ns (7+n%41)).map .int)),none]) (by simp[bq,e1])).trans (by simp[iz,lD,e2,nM,lfK,lfb]))))))
 rw[if_neg h3,if_neg h3];obtain⟨a,b,hab⟩:=yO 20 (mwV (eO (n/7))) (exV (eO (n/7)).ex - (eO (n/7)).fr.length)
 rw[hab]at e3 ⊢
 exact xa (ρ:=[some (.sh (.lst (ns.map .int))),some (.sh (.int n)),some (.sh (.int (n/5%6))),none,some (.sh (.tup [.lst ((PG.nb (eO (n/7))).map .int),.tup [.int a,.int b]]))]) ((sk (no 0 h0)).trans ((sk (no 1 h1)).trans ((sk (no 2 h2)).trans ((sk (no 3 h3)).trans ((bt (ρ':=[some (.sh (.lst (ns.map .int))),some (.sh (.int n)),some (.sh (.int (n/5%6))),none,some (.sh (.tup [.lst ((PG.nb (eO (n/7))).map .int),.tup [.int a,.int b]]))]) (by simp[bq,e3])).trans (by simp[lq,eT,atP,ixP,lfK,lfb]))))))
theorem Dt(n:Int):(PG.nb (eO n)).length<=30:=by
 have h1:(cX (n/3%100000).toNat).length<=5:=p8 4 _ (by omega)
 have h2:(cX (n/37%30).toNat).length<=2:=p8 1 _ (by omega)
 have h3:(frB (bY n)).length<=4:=by
  have:(bY n).length<=3:=by unfold bY;split<;>simp;omega
  unfold frB
  split<;>simp;omega
 have h4:(exB (gH n)).length<=6:=by
  unfold gH;split
  . have hs:(if n/43%3=1 then[45]else if n/43%3=2 then[43]else[]:List Int).length<=1:=by split;simp;split<;>simp
    have ht:(if n/47%4=1 then[48]else[]:List Int).length<=1:=by split<;>simp
    simp only[exB,List.length_append,List.length_cons];omega
  . simp[exB]
 unfold PG.nb eO;simp only[List.length_append]
 split<;>simp<;>omega
theorem CT(ns:List Int)(n:Int):(lfb (gw ns n)).length<=160:=by
 unfold gw;split
 . simp[lfb,wdb]
 . split
   . simp[lfb,wdb]
   . split
     . simp[lfb,wdb]
     . split
       . have:=Ct (PG.points ns (7+n%41)) (n/30) (qY _ _) (sF _ _);simp only[lfb];omega
       . have:=Dt (n/7);simp only[lfb];omega
noncomputable def gn(nm:List Int)(v:PV):List Fr->List Fr
 |[]=>[]
 |g ::gs=>{ g with items:=g.items++[if g.k then v else .tup [.tup (nm.map .int),v]] } ::gs
noncomputable def Bd.close(B:Bd):Bd:=match B.frs with
 |[]=>B
 | f ::fs=>⟨B.row ++ [brk f.k],
     let ns:=B.nodes.modify f.i fun d=>{ d with b:=B.row.length+1,c:=B.nodes.length }
     if inF fs then ns.modify (f.i - 1) fun d=>{ d with c:=B.nodes.length } else ns,
     gn f.nm (.tup [kS f.k,.tup f.items]) fs,.tup [kS f.k,.tup f.items]⟩
noncomputable def kN(k:Bool):String:=if k then "row" else "fields"
noncomputable def Bd.opn(ns:List Int)(B:Bd)(n:Int):Bd:=
 ⟨bx ns B n++[if n/5%2=0 then 91 else 123],aP ns B n++[⟨kN (n/5%2=0),(bx ns B n).length,0,0⟩],⟨n/5%2=0,[],(aP ns B n).length,eN ns B n⟩ ::B.frs,B.val⟩
noncomputable def Bd.leaf(ns:List Int)(B:Bd)(n:Int):Bd:=
 ⟨bx ns B n++lfb (gw ns n),
   let ds:=aP ns B n++[⟨lfK (gw ns n),(bx ns B n).length,(bx ns B n++lfb (gw ns n)).length,(aP ns B n).length+1⟩]
   if inF B.frs then ds.modify (ds.length - 2) fun d=>{ d with c:=ds.length } else ds,
   gn (eN ns B n) (lfV ns n) B.frs,lfV ns n⟩
noncomputable def Bd.step(ns:List Int)(B:Bd)(k:Nat):Bd:=
 if B.frs.isEmpty=false /\ PG.mix ns k%5=1 then Bd.close { B with row:=B.row++lwh (PG.mix ns k/3) }
 else if B.frs.isEmpty=false \/ k=0 then
  if PG.mix ns k%5>2 \/ (k=0 /\ PG.mix ns k%9>0)then B.opn ns (PG.mix ns k)else B.leaf ns (PG.mix ns k)
 else B
noncomputable def FOk(N K:Nat):List Fr->Prop
 |[]=>True
 |f ::fs=>f.i<N /\ f.items.length<=K /\ (fs≠[]->1<=f.i) /\ FOk N K fs
theorem FOk.mono{N K N' K':Nat}(h1:N<=N')(h2:K<=K'):∀{fs:List Fr},FOk N K fs->FOk N' K' fs
 |[],_=>trivial
 |_ ::_,h=>⟨Nat.lt_of_lt_of_le h.1 h1,Nat.le_trans h.2.1 h2,h.2.2.1,FOk.mono h1 h2 h.2.2.2⟩
theorem FOk.gn{N K:Nat}(nm:List Int)(v:PV){fs:List Fr}(h:FOk N K fs):FOk N (K+1) (gn nm v fs):=by
 cases fs with
 |nil=>trivial
 |cons g gs=>exact⟨h.1,by simp;exact h.2.1,h.2.2.1,FOk.mono (Nat.le_refl _) (Nat.le_succ _) h.2.2.2⟩
structure Bok(B:Bd)(k:Nat):Prop where
 row:B.row.length<=400*k
 nodes:B.nodes.length<=2*k
 frs:FOk B.nodes.length k B.frs
 dep:B.frs.length<=k
theorem wU(nm:List Int)(v:PV)(fs:List Fr):(gn nm v fs).length=fs.length:=by cases fs<;>simp[gn]
theorem fX(ns:List Int)(B:Bd)(n:Int):(aP ns B n).length=B.nodes.length+(if inF B.frs then 1 else 0):=by
 unfold aP;cases inF B.frs<;>simp
theorem Bok.close{B:Bd}{k:Nat}(h:Bok B k)(ws:List Int)(hw:ws.length<=3):Bok (Bd.close { B with row:=B.row++ws }) (k+1):=by
 have h1:=h.row;have h2:=h.nodes;have h3:=h.frs;have h4:=h.dep;unfold Bd.close
 cases e:B.frs with
 |nil=>rw[e]at h3 h4;exact⟨by simp;omega,by simp;omega,by simp[e];trivial,by simp[e]⟩
 | cons f fs=>
   rw[e]at h3 h4;simp only[List.length_cons]at h4
   refine⟨by simp;omega,?_,?_,?_⟩
   . simp only;split<;>simp<;>omega
   . have:FOk B.nodes.length (k+1) (gn f.nm (.tup [kS f.k,.tup f.items]) fs):=FOk.gn _ _ h3.2.2.2
     simp only;split<;>simpa using this
   . simp only[wU];omega
theorem Bok.opn{B:Bd}{k:Nat}(h:Bok B k)(ns:List Int)(n:Int):Bok (B.opn ns n) (k+1):=by
 have h1:=h.row;have h2:=h.nodes;have h3:=h.frs;have h4:=h.dep;have hb:=qU ns B n;have hl:=fX ns B n;unfold Bd.opn
 refine⟨by simp;omega,?_,?_,by simp;omega⟩
 . simp only[List.length_append,List.length_singleton]
   split at hl<;>omega
 . simp only[List.length_append,List.length_singleton]
   refine⟨by simp,by simp,?_,FOk.mono (by omega) (by omega) h3⟩
   intro hf
   simp only
   cases e:B.frs with
   |nil=>exact absurd e hf
   |cons g gs=>rw[e]at h3;have:=h3.1;omega
theorem Bok.leaf{B:Bd}{k:Nat}(h:Bok B k)(ns:List Int)(n:Int):Bok (B.leaf ns n) (k+1):=by
 have h1:=h.row;have h2:=h.nodes;have h3:=h.frs;have h4:=h.dep;have hb:=qU ns B n;have hf:=CT ns n;have hl:=fX ns B n
 have hN:(B.leaf ns n).nodes.length=(aP ns B n).length+1:=by unfold Bd.leaf;simp only;split<;>simp
 refine⟨by unfold Bd.leaf;simp;omega,by rw[hN];split at hl<;>omega,?_,by unfold Bd.leaf;simp only[wU];omega⟩
 rw[hN];exact FOk.mono (by omega) (Nat.le_refl _) (FOk.gn _ _ h3)
theorem Bok.mono{B:Bd}{k k':Nat}(h:Bok B k)(hk:k<=k'):Bok B k':=
 ⟨by have:=h.row;omega,by have:=h.nodes;omega,FOk.mono (Nat.le_refl _) hk h.frs,by have:=h.dep;omega⟩
theorem Bok.step{B:Bd}{k:Nat}(h:Bok B k)(ns:List Int):Bok (B.step ns k) (k+1):=by
 unfold Bd.step;split
 . exact h.close _ (gj _)
 . split
   . split
     . exact h.opn ns _
     . exact h.leaf ns _
   . exact h.mono (by omega)
theorem tF(g:Nd->Nd):∀(nodes:List Nd) (i:Nat) (d:Nd),nodes[i]?=some d->(nodes.map Nd.o).set i (g d).o=(nodes.modify i g).map Nd.o
 |[],i,d,h=>by simp at h
 |x ::xs,0,d,h=>by simp at h;subst h;simp
 | x ::xs,i+1,d,h=>by
   simp at h;simp[tF g xs i d h]
theorem Br{nodes:List Nd}{i:Nat}(h:i<nodes.length):∃ d,nodes[i]?=some d:=⟨nodes[i],by simp[h]⟩
theorem Dc{nodes:List Nd}{i:Nat}{d:Nd}(h:nodes[i]?=some d):(nodes.map Nd.o)[i]?=some (ndO (.str d.s) d.a d.b d.c):=by
 rw[List.getElem?_map,h];rfl
theorem Ih(B:Bd)(k:Nat)(h:Bok B k)(hk:k<=100)(hf:B.frs≠[]):
  cW [.tr true (eL B.row),.tr true (mJ B.nodes),.tr true (kD B.frs)]=.ok B.close.val [some (eL B.close.row),some (mJ B.close.nodes),some (kD B.close.frs)]:=by
 have h1:=h.row;have h2:=h.nodes;have h3:=h.frs;unfold Bd.close
 cases e:B.frs with
 |nil=>exact absurd e hf
 | cons f fs=>
   rw[e]at h3;obtain⟨d,hd⟩:=Br h3.1;have hit:=h3.2.1
   cases e2:fs with
   | nil=>
     have:=Bk B.row (B.nodes.map Nd.o) f.k f.items f.i f.nm (.str d.s) d.a d.b d.c (Dc hd) (by omega) (by rw[List.length_map];omega) (by omega);refine Eq.trans this ?_;have hs:=tF (fun d=>{ d with b:=B.row.length+1,c:=B.nodes.length }) B.nodes f.i d hd;simp only[inF,gn,kD,mJ,List.length_map,Bool.false_eq_true,if_false,<- hs];rfl
   | cons g gs=>
     rw[e2]at h3;have h1i:=h3.2.2.1 (by simp)
     have hit':=h3.2.2.2.2.1
     obtain⟨d2,hd2⟩:=Br (nodes:=B.nodes) (i:=f.i - 1) (by have:=h3.1;omega);have:=Bq B.row (B.nodes.map Nd.o) (gs.reverse.map Fr.o) f.k g.k f.items g.items f.i g.i f.nm g.nm (.str d.s) (.str d2.s) d.a d.b d.c d2.a d2.b d2.c (Dc hd) (by omega) (by rw[List.length_map];omega) (by omega) (by omega) (fun _=>⟨h1i,Dc hd2⟩);have hs:=tF (fun d=>{ d with b:=B.row.length+1,c:=B.nodes.length }) B.nodes f.i d hd
     have hd2':(B.nodes.modify f.i fun d=>{ d with b:=B.row.length+1,c:=B.nodes.length })[f.i - 1]?=some d2:=by
      rw[List.getElem?_modify,hd2];simp;intro z;omega
     have hs2:=tF (fun d=>{ d with c:=B.nodes.length }) _ (f.i - 1) d2 hd2';rw[<- hs]at hs2;refine Eq.trans (congrArg cW ?_) (Eq.trans this ?_)
     . simp[kD,mJ,Fr.o]
     . cases hg:g.k
       . simp only[inF,gn,kD,mJ,List.length_map,hg,Bool.not_false,Bool.false_eq_true,if_true,if_false,<- hs2];simp[Nd.o,Fr.o]
       . simp only[inF,gn,kD,mJ,List.length_map,hg,Bool.not_true,Bool.false_eq_true,if_true,if_false,<- hs];simp[Nd.o,Fr.o]
noncomputable def bE(ns:List Int)(m:Int)(B:Bd)(a b c d e f:Option Sl):ag:=[some (.sh (.lst (ns.map .int))),some (.sh (.int m)),some (.tr false (eL B.row)),some (.tr false (mJ B.nodes)),some (.tr false (kD B.frs)),some (.sh B.val),a,b,c,d,e,f]
theorem wj(ns:List Int)(m:Int)(B:Bd)(k:Nat)(h:Bok B k)(hk:k<=100)(hf:B.frs≠[])(a b c d e f:Option Sl):
  iE 5 (jP cW [.t 2 aI,.t 3 aI,.t 4 aI]) (bE ns m B a b c d e f)=.nx (bE ns m B.close a b c d e f):=by
 have e1:jT [.t 2 aI,.t 3 aI,.t 4 aI] (bE ns m B a b c d e f)=some [.tr true (eL B.row),.tr true (mJ B.nodes),.tr true (kD B.frs)]:=by
  simp[jT,nC,bE,aI,OV.get_nil]
 unfold iE jP;rw[e1];simp only[Ih B k h hk hf];simp[fQ,kY,bE,aI,OV.lG,nio]
theorem Bj(ns:List Int)(m:Int)(B:Bd)(k:Nat)(h:Bok B k)(hk:k<=100)(a:Option Sl)(n:Int)(c d e f:Option Sl):
  iE 8 (jP fW [.e (ao 0),.t 2 aI,.t 3 aI,.t 4 aI,.e (ao 7)]) (bE ns m B a (some (.sh (.int n))) c d e f) =
   .nx (bE ns m ⟨bx ns B n,aP ns B n,B.frs,B.val⟩ a (some (.sh (.int n))) (some (.sh (.tup ((eN ns B n).map .int)))) d e f):=by
 have h1:=h.row;have h2:=h.nodes
 have e1:jT [.e (ao 0),.t 2 aI,.t 3 aI,.t 4 aI,.e (ao 7)] (bE ns m B a (some (.sh (.int n))) c d e f)=some [.sh (.lst (ns.map .int)),.tr true (eL B.row),.tr true (mJ B.nodes),.tr true (kD B.frs),.sh (.int n)]:=by
  simp[jT,nC,bE,aI,OV.get_nil,mK]
 unfold iE jP;rw[e1];simp only[Hd ns B n (by omega) (by omega)];simp[fQ,kY,bE,aI,OV.lG,nio]
noncomputable abbrev bF(ns:List Int)(m:Int)(C B:Bd)(n:Int)(a e f:Option Sl):ag:=bE ns m C a (some (.sh (.int n))) (some (.sh (.tup ((eN ns B n).map .int)))) (some (.sh (.int (bx ns B n).length))) e f
noncomputable abbrev bG(ns:List Int)(m:Int)(B:Bd)(n:Int)(a e f:Option Sl):ag:=bF ns m ⟨bx ns B n,aP ns B n,B.frs,B.val⟩ B n a e f
theorem MG(k:Bool):kS k=.str (kN k):=by cases k<;>rfl
theorem Eh(ns:List Int)(m:Int)(B:Bd)(k:Nat)(h:Bok B k)(hk:k<=100)(a:Option Sl)(n:Int)(e f:Option Sl):∃ e',
  (aG (bq 10 (mOp gN (b5 (ak (mC (.str "row")) (ak (mC (.str "fields")) aJ))) (mOp cI (mOp dH (ao 7) (mC (.int 5))) (mC (.int 2)))))
  (aG (bR 2 aI (mD (gG (aB (mOp gEq (ao 10) (mC (.str "row")))) (mC (.int 91)) (mC (.int 123)))))
  (aG (bR 4 aI (mDl (mDc (mD (ao 10)) (mDc (mD (b5 aJ)) (mDc (mD (gJ 3 aI)) (mDc (mD (ao 8)) mDn))))))
  (bR 3 aI (mD (b5 (ak (ao 10) (ak (ao 9) (ak (mC (.int 0)) (ak (mC (.int 0)) aJ))))))))))
  (bG ns m B n a e f) =
  .nx (bF ns m (B.opn ns n) B n a e' f):=by
 have h1:=h.row;have h2:=h.nodes;have h4:=h.dep;have hb:=qU ns B n;have hl:=fX ns B n
 have hl':(aP ns B n).length<=B.nodes.length+1:=by split at hl<;>omega
 refine⟨some (.sh (kS (n/5%2=0))),?_⟩
 have hz:n/5%2=0 \/ n/5%2=1:=by omega
 rw[bt (ρ':=bG ns m B n a (some (.sh (kS (n/5%2=0)))) f) (by
  rcases hz with z|z<;>simp[bq,bE,z,gN,atP,ixP,kS])]
 rw[bt (zo (row:=bx ns B n) (b:=if n/5%2=0 then 91 else 123) rfl (by
  rcases hz with z|z<;>simp -implicitDefEqProofs [mD,gG,aB,bE,z,kS,gEq,eqS,aH]) (by omega))]
 rw[bt (vD (ts:=B.frs.reverse.map Fr.o) (x:=Fr.o ⟨n/5%2=0,[],(aP ns B n).length,eN ns B n⟩) rfl (by
  have:=yq (ρ:=(bG ns m B n a (some (.sh (kS (n/5%2=0)))) f).set 2 (some (.tr false (eL (bx ns B n++[if n/5%2=0 then 91 else 123]))))) (i:=3) (nds:=aP ns B n) rfl;simp only[mDl,mDc,mD,this]
  simp[mDn,bE,Fr.o,frO,mDl]) (by simp;exact fj (n:=B.frs.length+1) (by omega)))]
 rw[yV (nds:=aP ns B n) (d:=⟨kN (n/5%2=0),(bx ns B n).length,0,0⟩) rfl (by
  simp[mD,bE,Nd.o,ndO,MG]) (by omega)]
 simp[bE,Bd.opn,kD]
theorem Pe(n:Int):(if n/5%2=0 then true else false)=decide (n/5%2=0):=by simp
theorem C2{ρ:ag}{i:Nat}{io:Bool}{g:Fr}{gs:List Fr}{x:PV}{md:ag->OD}(h:ρ[i]?=some (some (.tr io (kD (g ::gs)))))(hd:md ρ=.ok (.sh x))(hl:g.items.length<1000):
  bR i (pIx i (pIx i aI (mUn hZ (mC (.int 1)))) (mC (.int 1))) md ρ=.nx (ρ.set i (some (.tr io (kD ({ g with items:=g.items++[x] } ::gs))))):=by
 have hi:=vU 1 1 rfl (by omega) h;rw[lO]at h;rw[Cp h hi (vz g gs) (xs:=g.items.map .sh) rfl hd (by rw[List.length_map];exact fj (n:=g.items.length+1) (by omega))];rw[lO];simp[Fr.o,frO,List.set_append_right]
theorem DL(ns:List Int)(m:Int)(B:Bd)(k:Nat)(h:Bok B k)(hk:k<=100)(a:Option Sl)(n:Int)(hn:0<=n)(e f:Option Sl):∃ f',
  (aG (bq 11 (bp cA (ak (ao 0) (ak (ao 7) aJ))))
  (aG (dP 2 aI (mOp eT (ao 11) (mC (.int 1))))
  (aG (bR 3 aI (mD (b5 (ak (mOp eT (ao 11) (mC (.int 0))) (ak (ao 9) (ak (gJ 2 aI) (ak (mOp dZ (gJ 3 aI) (mC (.int 1))) aJ)))))))
  (aG (bq 5 (mOp eT (ao 11) (mC (.int 2))))
  (bf (fo (dE 4 aI) (aB (mOp gEq (de 4 (pIx 4 (pIx 4 aI (mUn hZ (mC (.int 1)))) (mC (.int 0)))) (mC (.str "fields")))))
  (aG (qj 3 (pIx 3 aI (mUn hZ (mC (.int 2)))) (mC (.int 3)) (mD (gJ 3 aI)))
  (bR 4 (pIx 4 (pIx 4 aI (mUn hZ (mC (.int 1)))) (mC (.int 1))) (mD (fh (ak (ao 8) (ak (ao 5) aJ))))))
  (bf (dE 4 aI)
  (bR 4 (pIx 4 (pIx 4 aI (mUn hZ (mC (.int 1)))) (mC (.int 1))) (mD (ao 5)))
  aS))))))
  (bG ns m B n a e f) =
  .nx (bF ns m (B.leaf ns n) B n a e f'):=by
 have h1:=h.row;have h2:=h.nodes;have h3:=h.frs;have h4:=h.dep;have hb:=qU ns B n;have hf:=CT ns n;have hl:=fX ns B n
 have hl':(aP ns B n).length<=B.nodes.length+1:=by split at hl<;>omega
 generalize hF:PV.tup [.str (lfK (gw ns n)),.lst ((lfb (gw ns n)).map .int),lfV ns n]=F
 refine⟨some (.sh F),?_⟩
 generalize hv:lfV ns n=v
 have hi0:atP [PV.str (lfK (gw ns n)),.lst ((lfb (gw ns n)).map .int),v] 0=some (PV.str (lfK (gw ns n))):=by simp[atP,ixP]
 rw[bt (ρ':=bG ns m B n a e (some (.sh F))) (by
  have:=HY ns n hn;rw[hF]at this
  simp[bq,bE,this])]
 rw[bt (mZ (row:=bx ns B n) (ys:=lfb (gw ns n)) rfl (.inr (by simp[bE,<- hF,eT,atP,ixP])) (by omega))]
 rw[bt (yV (nds:=aP ns B n) (d:=⟨lfK (gw ns n),(bx ns B n).length,(bx ns B n++lfb (gw ns n)).length,(aP ns B n).length+1⟩) rfl (by
  have hx:=yq (ρ:=(bG ns m B n a e (some (.sh F))).set 2 (some (.tr false (eL (bx ns B n++lfb (gw ns n)))))) (i:=3) (nds:=aP ns B n) rfl;have hy:=vw (ρ:=(bG ns m B n a e (some (.sh F))).set 2 (some (.tr false (eL (bx ns B n++lfb (gw ns n)))))) (i:=2) (row:=bx ns B n++lfb (gw ns n)) rfl;simp only[mD,b5,ak,hx,hy,mOp]
  simp[bE,<- hF,eT,atP,ixP,Nd.o,ndO]) (by omega))]
 generalize hR:bx ns B n++lfb (gw ns n)=R;generalize hD:aP ns B n++[⟨lfK (gw ns n),(bx ns B n).length,R.length,(aP ns B n).length+1⟩]=D
 have hDl:D.length=(aP ns B n).length+1:=by rw[<- hD];simp
 rw[bt (ρ':=bF ns m ⟨R,D,B.frs,v⟩ B n a e (some (.sh F))) (by
  simp[bq,bE,<- hF,eT,atP,ixP,hv])]
 unfold bf;rw[FH (fs:=B.frs) rfl];unfold Bd.leaf;rw[hR];simp only[hD,hv]
 cases hg:B.frs with
 | nil=>
   have:=rJ (ρ:=bF ns m ⟨R,D,[],v⟩ B n a e (some (.sh F))) (i:=4) (fs:=[]) rfl;simp[inF,gn,this,aS]
 | cons g gs=>
   rw[hg]at h3;have hit:=h3.2.1;have ht:=rJ (ρ:=bF ns m ⟨R,D,g ::gs,v⟩ B n a e (some (.sh F))) (i:=4) (fs:=g ::gs) rfl
   cases hgk:g.k with
   | true=>
     have hp:=C2 (ρ:=bF ns m ⟨R,D,g ::gs,v⟩ B n a e (some (.sh F))) (i:=4) (g:=g) (gs:=gs) (x:=v) (md:=mD (ao 5)) rfl (by simp[mD,bE]) (by omega);simp[inF,gn,ht,hgk,hp];simp[bE]
   | false=>
     have h2l:2<=D.length:=by
      have hq:inF B.frs=true:=by rw[hg];simp[inF,hgk]
      rw[hq]at hl;simp at hl;omega
     obtain⟨d2,hd2⟩:=Br (nodes:=D) (i:=D.length - 2) (by omega);have hs:=tF (fun d=>{ d with c:=D.length }) D (D.length - 2) d2 hd2
     have hput:=vp (ρ:=bF ns m ⟨R,D,g ::gs,v⟩ B n a e (some (.sh F))) (i:=3) (io:=false) (ts:=D.map Nd.o) (j:=D.length - 2) (j2:=3) (mk:=mC (.int 3)) (md:=mD (gJ 3 aI)) (x:=.sh (.int D.length)) (mp:=pIx 3 aI (mUn hZ (mC (.int 2)))) rfl
      (lJ (i:=3) (ts:=D.map Nd.o) (bO (s:=.tr false (mJ D)) rfl rfl) (r:=.sh (.int (-2))) (k:=-2) (by simp) rfl (by rw[List.length_map];unfold ixP;rw[if_neg (by omega),if_pos (by omega)];congr 1;omega)) (Dc hd2) rfl rfl rfl (by unfold mD;rw[yq (nds:=D) rfl])
     have e3:(D.map Nd.o).set (D.length - 2) (.ol ([.sh (.str d2.s),.sh (.int d2.a),.sh (.int d2.b),.sh (.int d2.c)].set 3 (.sh (.int D.length))))=(D.modify (D.length - 2) fun d=>{ d with c:=D.length }).map Nd.o:=hs
     rw[e3]at hput;have hp:=C2 (ρ:=bF ns m ⟨R,D.modify (D.length - 2) fun d=>{ d with c:=D.length },g ::gs,v⟩ B n a e (some (.sh F))) (i:=4) (g:=g) (gs:=gs) (x:=.tup [.tup ((eN ns B n).map .int),v]) (md:=mD (fh (ak (ao 8) (ak (ao 5) aJ)))) rfl (by simp[mD,bE]) (by omega)
     have:inF (g ::gs)=true:=by simp[inF,hgk]
     rw[this];refine Eq.trans (bt hput) ?_;refine Eq.trans hp ?_;simp[gn,hgk,bE]
theorem Lx(ns:List Int)(m:Int)(B:Bd)(k:Nat)(h:Bok B k)(hk:k<=90)(b c d e f:Option Sl):∃ b' c' d' e' f',
  iR (bE ns m B (some (.sh (.int k))) b c d e f)=.nx (bE ns m (B.step ns k) (some (.sh (.int k))) b' c' d' e' f'):=by
 have hm:0<=PG.mix ns k:=(BA ns k).1
 have h1:=h.row;unfold iR;rw[bt (ρ':=bE ns m B (some (.sh (.int k))) (some (.sh (.int (PG.mix ns k)))) c d e f) (by simp[bq,bE,eS])];unfold Bd.step
 generalize PG.mix ns k=n at hm ⊢
 have c1:fo (dE 4 aI) (aB (mOp gEq (mOp cI (ao 7) (mC (.int 5))) (mC (.int 1)))) (bE ns m B (some (.sh (.int k))) (some (.sh (.int n))) c d e f)=.ok (decide (B.frs.isEmpty=false /\ n%5=1)):=by
  have:=rJ (ρ:=bE ns m B (some (.sh (.int k))) (some (.sh (.int n))) c d e f) (i:=4) (fs:=B.frs) rfl
  unfold bE at this ⊢
  cases hf:B.frs.isEmpty<;>simp[fo,this,hf,aB]
 unfold bf;rw[c1]
 by_cases hc1:B.frs.isEmpty=false /\ n%5=1
 . rw[if_pos hc1,decide_eq_true hc1]
   refine⟨some (.sh (.int n)),c,d,e,f,Eq.trans (bt (ρ':=bE ns m { B with row:=B.row++lwh (n/3) } (some (.sh (.int k))) (some (.sh (.int n))) c d e f) ?_) ?_⟩
   . exact mZ (row:=B.row) rfl (.inl (by simp[bE,eC])) (by have:=gj (n/3);omega)
   . refine wj ns m { B with row:=B.row++lwh (n/3) } (k+1) ⟨?_,?_,?_,?_⟩ (by omega) ?_ _ _ _ _ _ _
     . have:=gj (n/3);simp;omega
     . have:=h.nodes;simp;omega
     . exact FOk.mono (Nat.le_refl _) (Nat.le_succ _) h.frs
     . have:=h.dep;simp;omega
     . simp only;intro z;rw[z]at hc1;exact absurd hc1.1 (by simp)
 . rw[if_neg hc1,decide_eq_false hc1]
   have c2:mL (dE 4 aI) (aB (mOp gEq (ao 6) (mC (.int 0)))) (bE ns m B (some (.sh (.int k))) (some (.sh (.int n))) c d e f)=.ok (decide (B.frs.isEmpty=false \/ k=0)):=by
    have:=rJ (ρ:=bE ns m B (some (.sh (.int k))) (some (.sh (.int n))) c d e f) (i:=4) (fs:=B.frs) rfl
    unfold bE at this ⊢
    cases hf:B.frs.isEmpty<;>simp[mL,this,hf,aB]
   show ∃ b' c' d' e' f',OT.cy _ _ _=_
   rw[c2]
   by_cases hc2:B.frs.isEmpty=false \/ k=0
   . rw[if_pos hc2,decide_eq_true hc2];have hb:=Bj ns m B k h (by omega) (some (.sh (.int k))) n c d e f
     have hs9:bq 9 (gJ 2 aI) (bE ns m ⟨bx ns B n,aP ns B n,B.frs,B.val⟩ (some (.sh (.int k))) (some (.sh (.int n))) (some (.sh (.tup ((eN ns B n).map .int)))) d e f)=.nx (bE ns m ⟨bx ns B n,aP ns B n,B.frs,B.val⟩ (some (.sh (.int k))) (some (.sh (.int n))) (some (.sh (.tup ((eN ns B n).map .int)))) (some (.sh (.int (bx ns B n).length))) e f):=by
      unfold bq;rw[vw (row:=bx ns B n) rfl];simp[bE]
     have c3:mL (aB (mOp gGt (mOp cI (ao 7) (mC (.int 5))) (mC (.int 2)))) (fo (aB (mOp gEq (ao 6) (mC (.int 0)))) (aB (mOp gGt (mOp cI (ao 7) (mC (.int 9))) (mC (.int 0))))) (bE ns m ⟨bx ns B n,aP ns B n,B.frs,B.val⟩ (some (.sh (.int k))) (some (.sh (.int n))) (some (.sh (.tup ((eN ns B n).map .int)))) (some (.sh (.int (bx ns B n).length))) e f)=.ok (decide (n%5>2 \/ (k=0 /\ n%9>0))):=by
      by_cases h5:2<n%5
      . simp[mL,fo,aB,bE,h5]
      . by_cases h0:k=0
        . by_cases h9:0<n%9<;>simp[mL,fo,aB,bE,h5,h0,h9]
        . simp[mL,fo,aB,bE,h5,h0]
     by_cases hc3:n%5>2 \/ (k=0 /\ n%9>0)
     . rw[if_pos hc3];obtain⟨e',he⟩:=Eh ns m B k h (by omega) (some (.sh (.int k))) n e f
       refine⟨some (.sh (.int n)),some (.sh (.tup ((eN ns B n).map .int))),some (.sh (.int (bx ns B n).length)),e',f,Eq.trans (bt hb) (Eq.trans (bt hs9) ?_)⟩
       rw[c3,decide_eq_true hc3];exact he
     . rw[if_neg hc3];obtain⟨f',he⟩:=DL ns m B k h (by omega) (some (.sh (.int k))) n hm e f
       refine⟨some (.sh (.int n)),some (.sh (.tup ((eN ns B n).map .int))),some (.sh (.int (bx ns B n).length)),e,f',Eq.trans (bt hb) (Eq.trans (bt hs9) ?_)⟩
       rw[c3,decide_eq_false hc3];exact he
   . rw[if_neg hc2,decide_eq_false hc2]
     exact⟨_,_,_,_,_,rfl⟩
noncomputable def bld(ns:List Int)(B:Bd)(i:Nat):Nat->Bd
 |0=>B
 |j+1=>bld ns (B.step ns i) (i+1) j
theorem yt(ns:List Int):∀(j i:Nat) (B:Bd),Bok B i->Bok (bld ns B i j) (i+j)
 |0,i,B,h=>h
 | j+1,i,B,h=>by
   have:=yt ns j (i+1) _ (h.step ns);rw[show i+(j+1)=i+1+j by omega];exact this
theorem wX(ns:List Int)(m:Int):∀(j i:Nat) (B:Bd) (a b c d e f:Option Sl),Bok B i->i+j<=90->∃ a' b' c' d' e' f',
  jG 6 iR ((List.range' i j).map fun k:Nat=>.int k) (bE ns m B a b c d e f)=.nx (bE ns m (bld ns B i j) a' b' c' d' e' f')
 |0,i,B,a,b,c,d,e,f,_,_=>⟨_,_,_,_,_,_,rfl⟩
 | j+1,i,B,a,b,c,d,e,f,h,hij=>by
   obtain⟨b',c',d',e',f',hs⟩:=Lx ns m B i h (by omega) b c d e f;obtain⟨a2,b2,c2,d2,e2,f2,hl⟩:=wX ns m j (i+1) (B.step ns i) (some (.sh (.int i))) b' c' d' e' f' (h.step ns) (by omega)
   refine⟨a2,b2,c2,d2,e2,f2,?_⟩
   rw[List.range'_succ,List.map_cons,j4];rw[show(bE ns m B a b c d e f).set 6 (some (.sh (.int i)))=bE ns m B (some (.sh (.int i))) b c d e f from rfl,hs,iA];exact hl
noncomputable def cls(B:Bd):Nat->Bd
 |0=>B
 |j+1=>cls B.close j
theorem uC(B:Bd):B.close.frs.length=B.frs.length - 1:=by
 unfold Bd.close
 cases h:B.frs with
 |nil=>simp[h]
 |cons f fs=>simp[wU]
theorem uR(ns:List Int)(m:Int):∀(j:Nat) (B:Bd) (k:Nat) (a b c d e f:Option Sl) (F:Nat),Bok B k->k+j<=100->B.frs.length=j->j<F ->
  bX iT kq F (bE ns m B a b c d e f)=.nx (bE ns m (cls B j) a b c d e f)
 | 0,B,k,a,b,c,d,e,f,F,h,hk,hj,hF=>by
   obtain⟨F,rfl⟩:∃ G,F=G+1:=⟨F - 1,by omega⟩
   have ht:=rJ (ρ:=bE ns m B a b c d e f) (i:=4) (fs:=B.frs) rfl
   have:B.frs=[]:=List.length_eq_zero_iff.mp hj
   unfold bX iT;rw[ht,this];rfl
 | j+1,B,k,a,b,c,d,e,f,F,h,hk,hj,hF=>by
   obtain⟨F,rfl⟩:∃ G,F=G+1:=⟨F - 1,by omega⟩
   have ht:=rJ (ρ:=bE ns m B a b c d e f) (i:=4) (fs:=B.frs) rfl
   have hne:B.frs≠[]:=by intro z;rw[z]at hj;simp at hj
   have hcl:=wj ns m B k h (by omega) hne a b c d e f;have hb:=h.close [] (by simp);rw[show({ B with row:=B.row++[] }:Bd)=B by cases B;simp]at hb;unfold bX;rw[show iT=dE 4 aI from rfl,ht]
   have he:B.frs.isEmpty=false:=by cases q:B.frs with|nil=>exact absurd q hne|cons _ _=>rfl
   rw[he];show OS.turn _ _=_;rw[show kq=iE 5 (jP cW [.t 2 aI,.t 3 aI,.t 4 aI]) from rfl,hcl,iA];exact uR ns m j B.close (k+1) a b c d e f F hb (by omega) (by rw[uC];omega) (by omega)
noncomputable def bd0:Bd:=⟨[],[],[],.non⟩
noncomputable def ndP(d:Nd):PV:=.tup [.str d.s,.int d.a,.int d.b,.int d.c]
noncomputable def gW(ns:List Int)(m:Nat):Bd:=
 let B:=bld ns bd0 0 m
 let C:=cls B B.frs.length
 { C with row:=C.row++lwh (PG.mix ns 61) }
theorem yk:∀(j:Nat) (B:Bd) (k:Nat),Bok B k->Bok (cls B j) (k+j)
 |0,B,k,h=>h
 | j+1,B,k,h=>by
   have hb:=h.close [] (by simp);rw[show({ B with row:=B.row++[] }:Bd)=B by cases B;simp]at hb;have:=yk j B.close (k+1) hb;rw[show k+(j+1)=k+1+j by omega];exact this
theorem p7:Bok bd0 0:=⟨by simp[bd0],by simp[bd0],trivial,by simp[bd0]⟩
theorem AD:∀ row:List Int,wG (row.map fun b=>.sh (.int b))=some (row.map .int)
 |[]=>by simp[wG]
 |b ::row=>by simp[wG,pvO,AD row]
theorem Aj:∀ ds:List Nd,wG (ds.map Nd.o)=some (ds.map fun d=>.lst [.str d.s,.int d.a,.int d.b,.int d.c])
 |[]=>by simp[wG]
 |d ::ds=>by simp[wG,pvO,Aj ds,Nd.o,ndO]
theorem Cm{ρ:ag}{i:Nat}{me:ag->OE}{P:ag->OS}{j:Int}(h1:me ρ=.ok (.sh (.int j)))(hi:-4611686018427387904<=j /\ j<4611686018427387904):tR i me P ρ=jG i P (cT j.toNat) ρ:=by
 simp -implicitDefEqProofs [tR,h1,hi]
theorem Ei(ns:List Int)(m:Nat)(hm:m<=20):∃ a b c d e f,tR 6 (ao 1) iR (bE ns m bd0 none none none none none none)=.nx (bE ns m (bld ns bd0 0 m) a b c d e f):=by
 obtain⟨a,b,c,d,e,f,hl⟩:=wX ns m m 0 bd0 none none none none none none p7 (by omega)
 refine⟨a,b,c,d,e,f,?_⟩
 have hr:cT (Int.toNat (m:Int))=(List.range' 0 m).map fun k:Nat=>.int k:=by simp[cT,List.range_eq_range']
 have h1:ao 1 (bE ns m bd0 none none none none none none)=.ok (.sh (.int m)):=by simp[bE]
 rw[Cm h1 (by omega),hr];exact hl
theorem D4(ns:List Int)(m:Int)(C:Bd)(hC:C.nodes.length<=1000)(hR:C.row.length<=100000)(a b c d e f:Option Sl):
  ∃ ρ,nc (bE ns m C a b c d e f)=.rt ρ (.sh (.tup [.lst ((C.row++lwh (PG.mix ns 61)).map .int),.lst (C.nodes.map ndP),C.val])):=by
 have e3:dP 2 aI (bp cF (ak (bp fk (ak (ao 0) (ak (mC (.int 61)) aJ))) aJ)) (bE ns m C a b c d e f)=.nx (bE ns m { C with row:=C.row++lwh (PG.mix ns 61) } a b c d e f):=
  mZ (row:=C.row) rfl (.inl (by simp[bE,eS,eC])) (by have:=gj (PG.mix ns 61);omega)
 refine⟨((bE ns m { C with row:=C.row++lwh (PG.mix ns 61) } a b c d e f).set 3 (some (.sh (.lst (C.nodes.map fun d=>.lst [.str d.s,.int d.a,.int d.b,.int d.c]))))).set 2 (some (.sh (.lst ((C.row++lwh (PG.mix ns 61)).map .int)))),?_⟩
 unfold nc;rw[bt e3];unfold rZ qh
 have z1:qV 3 (bE ns m { C with row:=C.row++lwh (PG.mix ns 61) } a b c d e f)=(bE ns m { C with row:=C.row++lwh (PG.mix ns 61) } a b c d e f).set 3 (some (.sh (.lst (C.nodes.map fun d=>.lst [.str d.s,.int d.a,.int d.b,.int d.c])))):=by
  simp[qV,bE,mJ,pvO,Aj]
 have z2:qV 2 ((bE ns m { C with row:=C.row++lwh (PG.mix ns 61) } a b c d e f).set 3 (some (.sh (.lst (C.nodes.map fun d=>.lst [.str d.s,.int d.a,.int d.b,.int d.c])))))=((bE ns m { C with row:=C.row++lwh (PG.mix ns 61) } a b c d e f).set 3 (some (.sh (.lst (C.nodes.map fun d=>.lst [.str d.s,.int d.a,.int d.b,.int d.c]))))).set 2 (some (.sh (.lst ((C.row++lwh (PG.mix ns 61)).map .int)))):=by
  have:=AD (C.row++lwh (PG.mix ns 61));unfold qV bE eL;simp only[List.set_cons_succ,List.set_cons_zero,List.getElem?_cons_succ,List.getElem?_cons_zero,pvO,this,Option.map_some]
 rw[z1,z2]
 have hel:dc ni [] (C.nodes.map fun d=>.lst [.str d.s,.int d.a,.int d.b,.int d.c])=.ok (C.nodes.map ndP):=
  kb _ fun d _=>by simp[ni,nM,ndP]
 simp[bE,hel,dv];exact fj (by omega)
theorem HA(ns:List Int)(m:Nat)(hm:m<=20):ic [.lst (ns.map .int),.int m]=.ok (.sh (.tup [.lst ((gW ns m).row.map .int),.lst ((gW ns m).nodes.map ndP),(gW ns m).val])):=by
 have hok:=yt ns m 0 bd0 p7;rw[Nat.zero_add]at hok;obtain⟨a,b,c,d,e,f,e2⟩:=Ei ns m hm;have hdep:=hok.dep;have hcok:=yk (bld ns bd0 0 m).frs.length _ m hok;have hcr:=hcok.row;have hcn:=hcok.nodes
 have e1:qG [some (.sh (.lst (ns.map .int))),some (.sh (.int m)),none,none,none,none,none,none,none,none,none,none]=nK (bE ns m bd0 none none none none none none):=by
  unfold qG;rw[bt (ρ':=[some (.sh (.lst (ns.map .int))),some (.sh (.int m)),some (.tr false (eL [])),none,none,none,none,none,none,none,none,none]) (by simp[lx,mD,eL])];unfold rV;rw[bt (ρ':=[some (.sh (.lst (ns.map .int))),some (.sh (.int m)),some (.tr false (eL [])),some (.tr false (mJ [])),none,none,none,none,none,none,none,none]) (by simp[lx,mD,mJ])];unfold rO;rw[bt (ρ':=[some (.sh (.lst (ns.map .int))),some (.sh (.int m)),some (.tr false (eL [])),some (.tr false (mJ [])),some (.tr false (kD [])),none,none,none,none,none,none,none]) (by simp[lx,mD,kD])];unfold rH;rw[bt (ρ':=bE ns m bd0 none none none none none none) (by simp[bq,bE,bd0])]
 obtain⟨ρ,e4⟩:=D4 ns m _ (Nat.le_trans hcn (by omega)) (Nat.le_trans hcr (by omega)) a b c d e f
 have hw:∀ F,(bld ns bd0 0 m).frs.length<F->bX iT kq F (bE ns m (bld ns bd0 0 m) a b c d e f)=.nx (bE ns m (cls (bld ns bd0 0 m) (bld ns bd0 0 m).frs.length) a b c d e f):=fun F hF=>uR ns m _ (bld ns bd0 0 m) m a b c d e f F hok (by omega) rfl hF
 unfold ic fnP;rw[if_pos (show List.length [PV.lst (ns.map .int),.int m]=2 from rfl),show lS 12 [PV.lst (ns.map .int),.int m]=[some (.sh (.lst (ns.map .int))),some (.sh (.int m)),none,none,none,none,none,none,none,none,none,none] from rfl,e1];unfold nK;rw[bt e2]
 have hF:(bld ns bd0 0 m).frs.length<fuel:=by unfold fuel;omega
 unfold rF;rw[bt (hw fuel hF),e4];rfl
theorem xY{st c:List PG.It}{b:Int}{bs:List Int}(h:PG.Goes (.value ::st) (b ::bs) c):∃ l,lA b=some l:=by
 have hw:=h.whole
 cases e:lA b with
 |some l=>exact⟨l,rfl⟩
 | none=>
   unfold PG.tk at hw
   have:gon (.value ::st) b=(st,false):=by
    unfold gon;rw[show bh .value b=none from e];rfl
   rw[this]at hw;simp at hw
theorem BL{b:Int}{l:List PG.It}(h:lA b=some l):wht b=false /\ b≠93:=by
 have h1:∀ c:Int,(c=32 \/ c=9 \/ c=10 \/ c=13 \/ c=93)->lA c=none:=by
  intro c hc
  rcases hc with z|z|z|z|z<;>subst z<;>rfl
 refine⟨?_,fun z=>by rw[h1 b (by omega)]at h;cases h⟩
 cases hw:wht b with
 |false=>rfl
 | true=>
   unfold wht at hw;simp only[Bool.or_eq_true,decide_eq_true_eq]at hw;rw[h1 b (by omega)]at h;cases h
noncomputable def Rdy(row:List Int)(ks:List Bool):Prop:=∀ b bs c,PG.Goes (.value ::PG.out ks) (b ::bs) c->PG.Goes st0 (row++b ::bs) c
theorem zu{row:List Int}{ks:List Bool}(h:PG.Goes st0 row (.br ::.value ::PG.out ks)):Rdy row ks:=fun b bs c k=>by
 obtain⟨l,hl⟩:=xY k;exact h.trans (.past (BL hl).1 k)
theorem H0{row:List Int}{ks:List Bool}(h:PG.Goes st0 row (.br ::.row ::PG.out ks)):Rdy row (true ::ks):=fun b bs c k=>by
 obtain⟨l,hl⟩:=xY k;exact h.trans (.past (BL hl).1 (BF hl (BL hl).2 k))
noncomputable def ks(fs:List Fr):List Bool:=fs.map Fr.k
noncomputable def Jn(B:Bd):Prop:=match B.frs with
 |[]=>Gs st0 B.row [.br]
 |f ::fs=>Gs st0 B.row (PG.stk f.k f.items.isEmpty (ks fs)) /\ (f.items=[]->PG.Goes st0 B.row (PG.stk f.k true (ks fs)))
theorem yE(r e:Bool)(fs:List Bool)(h:fs.length<64):PG.cnt (PG.hd r e ::PG.out fs)<=64:=by
 rw[PG.cnt_cons,lI]
 split<;>omega
theorem vI(ns:List Int)(n:Int):∀ s∈iF ns n,Sok s:=Gg _ _ _ (wy ns _).1
theorem AY{st c:List PG.It}{l:List Sg}(k:PG.Goes st (PG.txt l) c):PG.Goes (.br ::st) (PG.txt l) c:=.past rfl k
theorem L7(ns:List Int)(B:Bd)(n:Int)(hd:B.frs.length<=60)(hj:Jn B)(hne:B.frs≠[]):Rdy (bx ns B n) (ks B.frs):=by
 unfold Jn at hj;unfold bx dA oe
 cases e:B.frs with
 |nil=>exact absurd e hne
 | cons f fs=>
   rw[e]at hj hd;simp only[List.length_cons]at hd;obtain⟨h1,h2⟩:=hj
   have hks:(ks fs).length<64:=by unfold ks;rw[List.length_map];omega
   have hks2:(ks (f ::fs)).length<=64:=by unfold ks;rw[List.length_map,List.length_cons];omega
   have hcv:PG.cnt (.value ::PG.out (ks (f ::fs)))<=64:=by rw[PG.cnt_cons,lI];simp[PG.opn];exact hks2
   have hcs:PG.cnt (.sp 58 58 ::.br ::.value ::PG.out (ks (f ::fs)))<=64:=by rw[PG.cnt_cons,PG.cnt_cons];simpa [PG.opn]using hcv
   have hcn:PG.cnt (.name ::.br ::.sp 58 58 ::.br ::.value ::PG.out (ks (f ::fs)))<=64:=by rw[PG.cnt_cons,PG.cnt_cons];simpa [PG.opn]using hcs
   simp only[full,inF]
   by_cases hi:f.items=[]
   . have hie:f.items.isEmpty=true:=by rw[hi];rfl
     simp only[hie,Bool.not_true,Bool.false_eq_true,if_false,List.append_nil];have h3:=(h2 hi).trans (fK (yE f.k true (ks fs) hks) (lwh (n/3)) (dF _))
     cases hk:f.k with
     | true=>
       simp only[Bool.not_true,Bool.false_eq_true,if_false];rw[hk]at h3
       have:ks (f ::fs)=true ::ks fs:=by simp[ks,hk]
       rw[this];exact H0 h3
     | false=>
       simp only[Bool.not_false,if_true];rw[hk]at h3
       have hke:ks (f ::fs)=false ::ks fs:=by simp[ks,hk]
       rw[hke]at hcv hcs hcn ⊢
       refine zu ?_;have h4:=h3.trans (AY (AR hks (iF ns n) (vI ns n)));have h5:=h4.trans (wZ hcv (dF (n/19)));have h6:=h5.trans (fK hcv (lwh (n/23)) (dF _))
       simpa using h6
   . have hie:f.items.isEmpty = false:=by
      cases q:f.items with
      |nil=>exact absurd q hi
      |cons _ _=>rfl
     simp only[hie,Bool.not_false,if_true];rw[hie]at h1;have h3:=h1.br (yE f.k false (ks fs) hks) (dF (n/3))
     cases hk:f.k with
     | true=>
       simp only[Bool.not_true,Bool.false_eq_true,if_false];rw[hk]at h3
       have hke:ks (f ::fs)=true ::ks fs:=by simp[ks,hk]
       rw[hke]at hcv hcs hcn ⊢
       refine zu ?_;have h4:=(Gs.Ee h3 hks).trans (fK hcv (lwh (n/11)) (dF _))
       simpa using h4
     | false=>
       simp only[Bool.not_false,if_true];rw[hk]at h3
       have hke:ks (f ::fs)=false ::ks fs:=by simp[ks,hk]
       rw[hke]at hcv hcs hcn ⊢
       refine zu ?_;have h4:=(Gs.zb h3 hks).trans (fK hcn (lwh (n/11)) (dF _));have h5:=h4.trans (AY (DP (by rw[PG.cnt_cons];simpa [PG.opn]using hcs) (iF ns n) (vI ns n)));have h6:=h5.trans (wZ hcv (dF (n/19)));have h7:=h6.trans (fK hcv (lwh (n/23)) (dF _))
       simpa using h7
theorem Hs(ns:List Int)(B:Bd)(n:Int)(h0:B.frs=[])(hr:B.row=[]):Rdy (bx ns B n) (ks B.frs):=by
 rw[h0];refine zu ?_;unfold bx dA;rw[h0,hr];simp only[inF,full,Bool.false_eq_true,if_false,List.append_nil,List.nil_append];exact fK (by decide) _ (dF _)
theorem Hz(x:Lf)(hx:Lok x):∃ b bs,lfb x=b ::bs:=by
 cases x with
 |wd w=>cases w<;>exact⟨_,_,rfl⟩
 |tx l=>exact⟨_,_,rfl⟩
 | nm m=>
   have h:m.ip≠[]:=by
    rcases hx.ip with z|⟨d,r,z,_⟩<;>rw[z]<;>simp
   cases q:lfb (.nm m)with
   |cons b bs=>exact⟨b,bs,rfl⟩
   | nil=>
     have q':PG.nb m=[]:=q
     unfold PG.nb at q';simp at q';exact absurd q'.2.1 h
theorem Jn.close{B:Bd}(h:Jn B)(hne:B.frs≠[])(hd:B.frs.length<=60):Jn B.close:=by
 unfold Jn at h;unfold Bd.close
 cases e:B.frs with
 |nil=>exact absurd e hne
 | cons f fs=>
   rw[e]at h hd;simp only[List.length_cons]at hd;have h1:=Gs.close f.k f.items.isEmpty h.1 (by unfold ks;rw[List.length_map];omega)
   cases fs with
   |nil=>exact .of h1
   | cons g gs=>
     refine⟨?_,fun z=>by simp[gn]at z⟩
     have:({ g with items:=g.items++[if g.k then PV.tup [kS f.k,.tup f.items]else .tup [.tup (f.nm.map .int),.tup [kS f.k,.tup f.items]]] }:Fr).items.isEmpty=false:=by simp
     rw[this];exact .of h1
theorem Jn.br{B:Bd}(h:Jn B)(hd:B.frs.length<=60)(ws:List Int)(hw:∀ b∈ws,wht b=true):Jn { B with row:=B.row++ws }:=by
 unfold Jn at h ⊢
 cases e:B.frs with
 |nil=>rw[e]at h;exact h.br (by decide) hw
 | cons f fs=>
   rw[e]at h hd;simp only[List.length_cons]at hd
   have hks:(ks fs).length<64:=by unfold ks;rw[List.length_map];omega
   exact⟨h.1.br (yE _ _ _ hks) hw,fun z=>(h.2 z).trans (fK (yE _ _ _ hks) ws hw)⟩
theorem GA{ns:List Int}{B:Bd}{n:Int}(h:Rdy (bx ns B n) (ks B.frs))(hd:B.frs.length<=60):Jn (B.opn ns n):=by
 have h1:=DM (fs:=ks B.frs) (decide (n/5%2=0)) (by unfold ks;rw[List.length_map];omega);have h2:=h _ _ _ h1;simp only[decide_eq_true_eq]at h2
 exact⟨.of h2,fun _=>h2⟩
theorem CD{ns:List Int}{B:Bd}{n:Int}(h:Rdy (bx ns B n) (ks B.frs))(hd:B.frs.length<=60):Jn (B.leaf ns n):=by
 obtain⟨b,bs,hb⟩:=Hz (gw ns n) (y9 ns n)
 have hc:PG.cnt (PG.out (ks B.frs))<=64:=by rw[lI];unfold ks;rw[List.length_map];omega
 obtain⟨ls,hl,h1⟩:=GP hc (gw ns n) (y9 ns n);rw[hb]at h1;have h2:=h _ _ _ h1;rw[<- hb]at h2;unfold Bd.leaf Jn
 simp only
 cases e:B.frs with
 | nil=>
   rw[e]at h2
   exact⟨ls,hl,h2⟩
 | cons g gs=>
   rw[e]at h2
   refine⟨⟨ls,hl,?_⟩,fun z=>by simp at z⟩
   have:(g.items++[if g.k=true then lfV ns n else PV.tup [PV.tup (List.map PV.int (eN ns B n)),lfV ns n]]).isEmpty=false:=by simp
   rw[this];exact h2
noncomputable def xq:List Fr->Prop
 |[]=>True
 |[f]=>f.i=0
 |_ ::fs=>xq fs
structure OU(ns:List Int)(B:Bd):Prop where
 nd:∃ d ds,B.nodes=d ::ds /\ d.b=B.row.length /\ ((∃ r k,B.row=r++[brk k]) \/ ∃ ws n,(∀ b∈ws,wht b=true) /\ B.row=ws++lfb (gw ns n) /\ d.a=ws.length /\ d.s=lfK (gw ns n))
structure pJ(ns:List Int)(B:Bd):Prop where
 jn:Jn B
 lo:xq B.frs
 fin:B.frs=[]->OU ns B
theorem AM(nm:List Int)(v:PV)(fs:List Fr)(h:xq fs):xq (gn nm v fs):=by
 cases fs with
 |nil=>trivial
 | cons g gs=>cases gs with
   |nil=>exact h
   |cons _ _=>exact h
theorem DG{f:Fr}{fs:List Fr}(h:xq (f ::fs)):xq fs:=by
 cases fs with
 |nil=>trivial
 |cons g gs=>exact h
theorem Dk{f:Fr}{fs:List Fr}(h:xq fs)(hn:fs≠[]):xq (f ::fs):=by
 cases fs with
 |nil=>exact absurd rfl hn
 |cons g gs=>exact h
theorem pJ.close{ns:List Int}{B:Bd}{k:Nat}(h:pJ ns B)(hk:Bok B k)(hne:B.frs≠[])(hd:k<=60):pJ ns B.close:=by
 have hdep:=hk.dep
 refine⟨h.jn.close hne (by omega),?_,?_⟩
 . have:=h.lo;unfold Bd.close
   cases e:B.frs with
   |nil=>exact absurd e hne
   |cons f fs=>rw[e]at this;exact AM _ _ _ (DG this)
 . have hlo:=h.lo;have hfr:=hk.frs;unfold Bd.close
   cases e:B.frs with
   |nil=>exact absurd e hne
   | cons f fs=>
     rw[e]at hlo hfr
     cases fs with
     |cons g gs=>intro z;simp[gn]at z
     | nil=>
       intro _
       have h0:f.i=0:=hlo
       have hl:=hfr.1
       cases hn:B.nodes with
       |nil=>rw[hn]at hl;simp at hl
       | cons d ds=>
         refine⟨⟨{ d with b:=B.row.length+1,c:=(d ::ds).length },ds,?_,?_,.inl ⟨B.row,f.k,rfl⟩⟩⟩
         . simp[inF,h0]
         . simp
theorem pJ.step{ns:List Int}{B:Bd}{k:Nat}(h:pJ ns B)(hk:Bok B k)(hd:k<=50)(h0:k≠0):pJ ns (B.step ns k):=by
 have hdep:=hk.dep;unfold Bd.step;split
 . rename_i hc
   have hne:B.frs≠[]:=by intro z;rw[z]at hc;simp at hc
   refine pJ.close (k:=k+1) (B:={ B with row:=B.row++lwh (PG.mix ns k/3) }) ⟨h.jn.br (by omega) _ (dF _),h.lo,fun z=>absurd z hne⟩ ⟨?_,?_,?_,?_⟩ hne (by omega)
   . have:=gj (PG.mix ns k/3);have:=hk.row;simp;omega
   . have:=hk.nodes;simp;omega
   . exact FOk.mono (Nat.le_refl _) (Nat.le_succ _) hk.frs
   . simp;omega
 . split
   . rename_i hc
     have hne:B.frs≠[]:=by
      intro z;rw[z]at hc;simp at hc;exact h0 hc
     have hr:=L7 ns B (PG.mix ns k) (by omega) h.jn hne;split
     . refine⟨GA hr (by omega),?_,fun z=>by simp[Bd.opn]at z⟩
       exact Dk h.lo hne
     . refine⟨CD hr (by omega),AM _ _ _ h.lo,fun z=>?_⟩
       unfold Bd.leaf at z;simp only at z
       cases e:B.frs with
       |nil=>exact absurd e hne
       |cons g gs=>rw[e]at z;simp[gn]at z
   . exact h
theorem pJ.first(ns:List Int):pJ ns (bd0.step ns 0):=by
 have hr:=Hs ns bd0 (PG.mix ns 0) rfl rfl
 have hd:bd0.frs.length<=60:=by simp[bd0]
 unfold Bd.step;rw[if_neg (by simp[bd0]),if_pos (.inr rfl)];split
 . exact⟨GA hr hd,rfl,fun z=>by simp[Bd.opn]at z⟩
 . refine⟨CD hr hd,trivial,fun _=>⟨⟨⟨lfK (gw ns (PG.mix ns 0)),(bx ns bd0 (PG.mix ns 0)).length,(bx ns bd0 (PG.mix ns 0)++lfb (gw ns (PG.mix ns 0))).length,(aP ns bd0 (PG.mix ns 0)).length+1⟩,[],rfl,rfl,.inr ⟨bx ns bd0 (PG.mix ns 0),PG.mix ns 0,?_,rfl,rfl,rfl⟩⟩⟩⟩
   intro b hb
   have:bx ns bd0 (PG.mix ns 0)=lwh (PG.mix ns 0/3):=by simp[bx,dA,bd0,inF,full]
   rw[this]at hb;exact dF _ b hb
theorem yl(ns:List Int):∀(j i:Nat) (B:Bd),pJ ns B->Bok B i->i≠0->i+j<=50->pJ ns (bld ns B i j)
 |0,_,_,h,_,_,_=>h
 |j+1,i,B,h,hk,h0,hj=>yl ns j (i+1) _ (h.step hk (by omega) h0) (hk.step ns) (by omega) (by omega)
theorem CY(ns:List Int):∀(j:Nat) (B:Bd) (k:Nat),pJ ns B->Bok B k->k+j<=60->B.frs.length=j->pJ ns (cls B j) /\ (cls B j).frs=[]
 |0,B,k,h,_,_,hj=>⟨h,List.length_eq_zero_iff.mp hj⟩
 | j+1,B,k,h,hk,hkj,hj=>by
   have hne:B.frs≠[]:=by intro z;rw[z]at hj;simp at hj
   have hb:=hk.close [] (by simp);rw[show({ B with row:=B.row++[] }:Bd)=B by cases B;simp]at hb;exact CY ns j B.close (k+1) (h.close hk hne (by omega)) hb (by omega) (by rw[uC];omega)
theorem DX(ns:List Int)(m:Nat)(h1:1<=m)(hm:m<=20):∃ C,pJ ns C /\ C.frs=[] /\ gW ns m={ C with row:=C.row++lwh (PG.mix ns 61) } /\ C.row.length<=800*m:=by
 obtain⟨m,rfl⟩:∃ j,m=j+1:=⟨m - 1,by omega⟩
 have hok:=yt ns (m+1) 0 bd0 p7;have h:=yl ns m 1 (bd0.step ns 0) (pJ.first ns) (p7.step ns) (by omega) (by omega);have hd:=hok.dep;have hc:=CY ns (bld ns bd0 0 (m+1)).frs.length (bld ns bd0 0 (m+1)) (0+(m+1)) h hok (by omega) rfl;have hr:=(yk (bld ns bd0 0 (m+1)).frs.length _ _ hok).row
 exact⟨_,hc.1,hc.2,rfl,Nat.le_trans hr (by omega)⟩
theorem jL{l:List Int}{xs ys:List Int}{x:Int}(h:l=xs++x ::ys){i:Int}(hi:i=xs.length):atP (l.map PV.int) i=some (.int x):=by
 rw[hi,kz,List.getElem?_map,h];simp
theorem Au{m:Nat}(h:m<=90000):m<fuel:=by unfold fuel;omega
theorem Hq(row:List Int)(a:Option Sl){body:List Int}(hb:Skp body):∀(pre post:List Int) (n:Nat),row=pre++(body++34 ::post)->body.length<n ->
  bX fB iC n [some (.sh (.lst (row.map .int))),a,some (.sh (.int (pre.length:Int)))]=.nx [some (.sh (.lst (row.map .int))),a,some (.sh (.int ((pre.length:Int)+body.length)))]:=by
 induction hb with
 | nil=>
   intro pre post n hr hn
   obtain⟨m,rfl⟩:∃ m,n=m+1:=⟨n - 1,by simp at hn;omega⟩
   have ha:atP (row.map PV.int) (pre.length:Int)=some (.int 34):=jL (xs:=pre) (ys:=post) hr rfl
   have hc:fB [some (.sh (.lst (row.map .int))),a,some (.sh (.int (pre.length:Int)))]=.ok false:=by simp[fB,ha]
   simp[bX,hc]
 | @one b r h1 h2 _ ih=>
   intro pre post n hr hn
   obtain⟨m,rfl⟩:∃ m,n=m+1:=⟨n - 1,by simp at hn;omega⟩
   have ha:atP (row.map PV.int) (pre.length:Int)=some (.int b):=jL (xs:=pre) (ys:=r++34 ::post) (by rw[hr];simp) rfl
   have hc:fB [some (.sh (.lst (row.map .int))),a,some (.sh (.int (pre.length:Int)))]=.ok true:=by simp[fB,ha,h1]
   have hb:iC [some (.sh (.lst (row.map .int))),a,some (.sh (.int (pre.length:Int)))]=.nx [some (.sh (.lst (row.map .int))),a,some (.sh (.int ((pre++[b]).length:Int)))]:=by simp[iC,ha,h2]
   have:=ih (pre++[b]) post m (by rw[hr];simp) (by simp at hn;omega);simp only[bX,hc,eK,if_true,hb,iA,this]
   congr 6
   simp;omega
 | @two c r _ ih=>
   intro pre post n hr hn
   obtain⟨m,rfl⟩:∃ m,n=m+1:=⟨n - 1,by simp at hn;omega⟩
   have ha:atP (row.map PV.int) (pre.length:Int)=some (.int 92):=jL (xs:=pre) (ys:=c ::(r++34 ::post)) (by rw[hr];simp) rfl
   have hc:fB [some (.sh (.lst (row.map .int))),a,some (.sh (.int (pre.length:Int)))]=.ok true:=by simp[fB,ha]
   have hb:iC [some (.sh (.lst (row.map .int))),a,some (.sh (.int (pre.length:Int)))]=.nx [some (.sh (.lst (row.map .int))),a,some (.sh (.int ((pre++[92,c]).length:Int)))]:=by simp[iC,ha]
   have:=ih (pre++[92,c]) post m (by rw[hr];simp) (by simp at hn;omega);simp only[bX,hc,eK,if_true,hb,iA,this]
   congr 6
   simp;omega
theorem DU(row pre post body:List Int)(hb:Skp body)(hr:row=pre++34 ::(body++34 ::post))(hl:row.length<=90000):i7 [.lst (row.map .int),.int pre.length]=.ok (.sh (.int ((pre.length:Int)+body.length+2))):=by
 have h:=Hq row (some (.sh (.int pre.length))) hb (pre++[34]) post fuel (by rw[hr];simp) (Au (by rw[hr]at hl;simp at hl;omega))
 have e1:((pre++[34]:List Int).length:Int)=(pre.length:Int)+1:=by simp
 rw[e1]at h
 have e2:(pre.length:Int)+1+(body.length:Int)+1=(pre.length:Int)+body.length+2:=by omega
 simp -implicitDefEqProofs [tS,tw,v5,i7,h,e2]
theorem GN(row:List Int):fm [.lst (row.map .int),.int (row.length:Int)]=.ok (.sh (.bl false)):=by
 have hc:dY [some (.sh (.lst (row.map .int))),some (.sh (.int (row.length:Int)))]=.ok false:=by simp[dY]
 obtain⟨n,hn⟩:∃ n,fuel=n+1:=⟨99999,rfl⟩
 simp -implicitDefEqProofs [nX,fm,hn,bX,hc]
theorem Hr(row pre post:List Int)(b:Int)(hr:row=pre++b ::post)(hw:wht b=false):fm [.lst (row.map .int),.int (pre.length:Int)]=.ok (.sh (.bl (decide (b=58)))):=by
 have ha:atP (row.map PV.int) (pre.length:Int)=some (.int b):=jL (xs:=pre) (ys:=post) hr rfl
 have hl:pre.length<row.length:=by rw[hr];simp
 have hc:dY [some (.sh (.lst (row.map .int))),some (.sh (.int (pre.length:Int)))]=.ok false:=by simp[dY,ha,cj,hw]
 obtain⟨n,hn⟩:∃ n,fuel=n+1:=⟨99999,rfl⟩
 simp -implicitDefEqProofs [nX,fm,hn,bX,hc,ha,hl]
theorem u9(row pre post:List Int)(ss:List Sg)(hok:∀ s∈ss,Sok s)(i:Int)(nm:Bool)(hr:row=pre++(PG.txt ss++post))(hl:row.length<=90000)
  (hn:fm [.lst (row.map .int),.int ((pre.length:Int)+(PG.inner ss).length+2)]=.ok (.sh (.bl nm))):je [.lst (row.map .int),.int pre.length,.int i]=.ok (.sh (.tup [.str (if nm then "name" else "text"),.int pre.length,.int ((pre.length:Int)+(PG.inner ss).length+2),.int (i+1)])):=by
 have hr':row=pre++34 ::(PG.inner ss++34 ::post):=by rw[hr];simp[PG.txt]
 have ha:atP (row.map PV.int) (pre.length:Int)=some (.int 34):=jL (xs:=pre) (ys:=PG.inner ss++34 ::post) hr' rfl
 have hte:=DU row pre post (PG.inner ss) (D8 ss hok) hr' hl
 cases nm<;>simp -implicitDefEqProofs [nV,nY,nO,uL,je,ha,ju,List.lookup,gNe,eqS,hte,hn]
theorem FI{xs:List PV}{x:PV}:atP (xs++[x]) (-1)=some x:=by
 unfold atP;rw[show(xs++[x]).length=xs.length+1 by simp,Ln];simp
noncomputable abbrev NS0(row:List Int)(tree:List PV)(un:List OV)(p:Int)(b i:Option Sl):ag:=[some (.sh (.lst (row.map .int))),some (.ow tree),some (.tr false (.ol un)),some (.sh (.int p)),b,i]
theorem xx{row:List Int}{tree:List PV}{un:List OV}{p e n:Int}{b:Int}{x y:Option Sl}{nm:Str}(ha:atP (row.map PV.int) p=some (.int b))(h1:b≠91)(h2:b≠123)(h3:b≠93)(h4:b≠125)(h5:wht b=false)(h6:b≠44)(h7:b≠58)(ht:tree.length<=90000)
  (hleaf:je [.lst (row.map .int),.int p,.int tree.length]=.ok (.sh (.tup [.str nm,.int p,.int e,.int n]))):
  cB (NS0 row tree un p x y)=.nx (NS0 row (tree++[.tup [.str nm,.int p,.int e,.int n]]) un e (some (.sh (.int b))) y):=by
 have hl:tree.length<lim:=oz (by omega)
 have z:∀ k:Int,b≠k->(k==b)=false:=fun k h=>by simpa using fun q=>h q.symm
 have hlast:=FI (xs:=tree) (x:=.tup [.str nm,.int p,.int e,.int n]);simp -implicitDefEqProofs [cB,ha,gIn,kA,dQ,fg,z _ h1,z _ h2,z _ h3,z _ h4,z _ h6,z _ h7,cj,h5,hleaf,hl,hlast]
theorem AN(row:List Int)(tree:List PV)(un:List OV)(p:Int)(b i:Option Sl):gL (NS0 row tree un p b i)=.ok (decide (p<row.length)):=by
 simp[gL]
theorem Dg(row:List Int)(tree:List PV)(p:Int)(b i:Option Sl)(ys:List PV)(hf:PG.flt row=none)(hl:8*row.length+20<100000)(ht:tree.length<=90000)
  (hw:bX gL cB fuel (NS0 row [] [] 0 none none)=.nx (NS0 row tree [] p b i)) (hy:dc uc [some (.sh (.lst tree))] (cT tree.length)=.ok ys) (hyl:ys.length=tree.length):mU [.lst (row.map .int)]=.ok (.fr ys):=by
 have hr:=Gp row hl;rw[hf]at hr
 have hlim:tree.length<=lim:=fj (by omega)
 have hb:-4611686018427387904<=(tree.length:Int) /\ (tree.length:Int)<4611686018427387904:=by omega
 have e5:uK (NS0 row tree [] p b i)=.rt [some (.sh (.lst (row.map .int))),some (.sh (.lst tree)),some (.tr false (.ol [])),some (.sh (.int p)),b,i] (.fr ys):=by
  have hfz:lD 1 (NS0 row tree [] p b i)=[some (.sh (.lst (row.map .int))),some (.sh (.lst tree)),some (.tr false (.ol [])),some (.sh (.int p)),b,i]:=rfl
  simp -implicitDefEqProofs [uK,hfz,dv,hb,hy,hyl,hlim]
 have e2:ux [some (.sh (.lst (row.map .int))),some (.ow []),none,none,none,none]=.rt [some (.sh (.lst (row.map .int))),some (.sh (.lst tree)),some (.tr false (.ol [])),some (.sh (.int p)),b,i] (.fr ys):=by
  have hsd:lx 2 (mD (b5 aJ)) [some (.sh (.lst (row.map .int))),some (.ow []),none,none,none,none]=.nx [some (.sh (.lst (row.map .int))),some (.ow []),some (.tr false (.ol [])),none,none,none]:=by simp[lx,mD]
  simp -implicitDefEqProofs only[ux,oa,hsd,jj,x6,B3,OB,hU,HS,List.set_cons_succ,List.set_cons_zero,xv,hw,e5]
 simp -implicitDefEqProofs [mU,Cq,hr,yi,e2]
theorem Bw{row:List Int}{tree:List PV}{un:List OV}{p:Int}{x y:Option Sl}(k:Bool)(ha:atP (row.map PV.int) p=some (.int (if k then 123 else 91)))(ht:tree.length<=90000)(hu:un.length<=90000):
  cB (NS0 row tree un p x y)=.nx (NS0 row (tree++[.tup [.str (if k then "fields" else "row"),.int p]]) (un++[.sh (.int (tree.length:Int))]) (p+1) (some (.sh (.int (if k then 123 else 91)))) y):=by
 have h1:bR 2 aI (mD (mUn mM (ao 1))) [some (.sh (.lst (row.map .int))),some (.ow tree),some (.tr false (.ol un)),some (.sh (.int p)),some (.sh (.int (if k then 123 else 91))),y]=.nx [some (.sh (.lst (row.map .int))),some (.ow tree),some (.tr false (.ol (un++[.sh (.int (tree.length:Int))]))),some (.sh (.int p)),some (.sh (.int (if k then 123 else 91))),y]:=by
  refine AQ (ts:=un) (io:=false) rfl ?_ (oz (by omega));simp[mD]
 have hl:tree.length<lim:=oz (by omega)
 cases k<;>simp only[if_true,Bool.false_eq_true,if_false]at ha h1 ⊢ <;>
  simp -implicitDefEqProofs [cB,ha,gIn,kA,dQ,fg,h1,Cf,List.lookup,hl]
theorem B1{row:List Int}{tree:List PV}{un:List OV}{p b:Int}{x y:Option Sl}(ha:atP (row.map PV.int) p=some (.int b))(hb:wht b=true \/ b=44 \/ b=58):
  cB (NS0 row tree un p x y)=.nx (NS0 row tree un (p+1) (some (.sh (.int b))) y):=by
 rcases hb with h|rfl|rfl
 . have hc:b = 9 \/ b = 10 \/ b = 13 \/ b = 32:=by
    unfold wht at h;simp only[Bool.or_eq_true,decide_eq_true_eq]at h;omega
   rcases hc with rfl|rfl|rfl|rfl<;>simp -implicitDefEqProofs [cB,ha,gIn,kA,dQ,fg,cj,wht]
 . have hw:wht 44=false:=rfl
   simp -implicitDefEqProofs [cB,ha,gIn,kA,dQ,fg,cj,hw]
 . have hw:wht 58=false:=rfl
   simp -implicitDefEqProofs [cB,ha,gIn,kA,dQ,fg,cj,hw]
theorem AJ{row:List Int}{tree:List PV}{un:List OV}{p a:Int}{j:Nat}{x y:Option Sl}{nm:Str}{rest:List PV}(k:Bool)(ha:atP (row.map PV.int) p=some (.int (if k then 125 else 93)))(he:tree[j]?=some (.tup (.str nm ::.int a ::rest))):
  cB (NS0 row tree (un++[.sh (.int (j:Int))]) p x y)=.nx (NS0 row (tree.set j (.tup [.str nm,.int a,.int (p+1),.int (tree.length:Int)])) un (p+1) (some (.sh (.int (if k then 125 else 93)))) (some (.sh (.int (j:Int))))):=by
 have h1:∀ u v z w,iE 5 (mR 2 aI) [u,v,some (.tr false (.ol (un++[.sh (.int (j:Int))]))),z,w,y]=.nx [u,v,some (.tr false (.ol un)),z,w,some (.sh (.int (j:Int)))]:=by
  intro u v z w;unfold iE;rw[Fo (ts:=un) (x:=.sh (.int (j:Int))) (io:=false) rfl];rfl
 have hj:j<tree.length:=(List.getElem?_eq_some_iff.mp he).1
 have hat:atP tree (j:Int)=some (.tup (.str nm ::.int a ::rest)):=by rw[kz,he]
 have hix:ixP tree.length (j:Int)=some j:=IJ _ _ hj
 cases k<;>simp only[if_true,Bool.false_eq_true,if_false]at ha ⊢ <;>
  simp -implicitDefEqProofs [cB,ha,gIn,kA,dQ,fg,h1,hat,hix]
theorem Ku{row:List Int}{tree:List PV}{un:List OV}{p:Int}{x y:Option Sl}{n:Nat}{s:ag}(h:p<row.length)(ht:cB (NS0 row tree un p x y)=.nx s):bX gL cB (n+1) (NS0 row tree un p x y)=bX gL cB n s:=by
 have hc:=AN row tree un p x y;rw[show decide (p<(row.length:Int))=true by simpa using h]at hc;simp only[bX,hc,eK,if_true,ht,iA]
theorem MH{row:List Int}{tree:List PV}{un:List OV}{p:Int}{x y:Option Sl}{n:Nat}(h:¬ p<row.length):bX gL cB (n+1) (NS0 row tree un p x y)=.nx (NS0 row tree un p x y):=by
 have hc:=AN row tree un p x y;rw[show decide (p<(row.length:Int))=false by simpa using h]at hc;simp only[bX,hc,eK,Bool.false_eq_true,if_false]
theorem E5{b:Int}(h:plb b):wht b=false /\ b≠44 /\ b≠93 /\ b≠125 /\ b≠91 /\ b≠123 /\ b≠58 /\ b≠34:=by
 unfold plb isF at h
 refine⟨?_,by omega,by omega,by omega,by omega,by omega,by omega,by omega⟩
 unfold wht;simp only[Bool.or_eq_false_iff,decide_eq_false_iff_not];omega
theorem BI(row:List Int)(a:Option Sl):∀(body pre post:List Int) (n:Nat),row=pre++(body++post)->(∀ b∈body,wht b=false /\ b≠44 /\ b≠93 /\ b≠125)->(post=[] \/ ∃ y r,post=y ::r /\ (wht y=true \/ y=44 \/ y=93 \/ y=125))->body.length<n ->
  bX dB kr n [some (.sh (.lst (row.map .int))),a,some (.sh (.int (pre.length:Int)))]=.nx [some (.sh (.lst (row.map .int))),a,some (.sh (.int ((pre.length+body.length:Nat):Int)))]:=by
 intro body
 induction body with
 | nil=>
   intro pre post n hr _ hp hn
   obtain⟨m,rfl⟩:∃ m,n=m+1:=⟨n - 1,by simp at hn;omega⟩
   have hc:dB [some (.sh (.lst (row.map .int))),a,some (.sh (.int (pre.length:Int)))]=.ok false:=by
    rcases hp with rfl|⟨y,r,rfl,hy⟩
    . have:row=pre:=by simpa using hr
      subst this;simp[dB]
    . have ha:atP (row.map PV.int) (pre.length:Int)=some (.int y):=jL (xs:=pre) (ys:=r) hr rfl
      have hl:pre.length<row.length:=by rw[hr];simp
      cases hw:wht y with
      |true=>simp[dB,ha,cj,hw,hl]
      | false=>
        rw[hw]at hy
        rcases hy with z|rfl|rfl|rfl
        . cases z
        . simp[dB,ha,cj,hw,hl,oB,kA,dQ,fg]
        . simp[dB,ha,cj,hw,hl,oB,kA,dQ,fg]
        . simp[dB,ha,cj,hw,hl,oB,kA,dQ,fg]
   simp[bX,hc]
 | cons b body ih=>
   intro pre post n hr hb hp hn
   obtain⟨m,rfl⟩:∃ m,n=m+1:=⟨n - 1,by simp at hn;omega⟩
   have ha:atP (row.map PV.int) (pre.length:Int)=some (.int b):=jL (xs:=pre) (ys:=body++post) hr rfl
   have hl:pre.length<row.length:=by rw[hr];simp
   obtain⟨h1,h2,h3,h4⟩:=hb b List.mem_cons_self
   have z:∀ k:Int,b≠k->¬ k=b:=fun k h q=>h q.symm
   have hc:dB [some (.sh (.lst (row.map .int))),a,some (.sh (.int (pre.length:Int)))]=.ok true:=by
    simp[dB,ha,cj,h1,hl,oB,kA,dQ,fg,z _ h2,z _ h3,z _ h4]
   have hb2:kr [some (.sh (.lst (row.map .int))),a,some (.sh (.int (pre.length:Int)))]=.nx [some (.sh (.lst (row.map .int))),a,some (.sh (.int ((pre++[b]).length:Int)))]:=by simp[kr]
   have:=ih (pre++[b]) post m (by rw[hr];simp) (fun x hx=>hb x (List.mem_cons_of_mem _ hx)) hp (by simp at hn;omega);simp only[bX,hc,eK,if_true,hb2,iA,this]
   have e:(pre++[b]).length+body.length=pre.length+(b ::body).length:=by simp;omega
   rw[e]
theorem vQ(row pre body post:List Int)(hr:row=pre++(body++post))(hb:∀ b∈body,wht b=false /\ b≠44 /\ b≠93 /\ b≠125)(hp:post=[] \/ ∃ y r,post=y ::r /\ (wht y=true \/ y=44 \/ y=93 \/ y=125))(hl:row.length<=90000):ig [.lst (row.map .int),.int pre.length]=.ok (.sh (.int ((pre.length:Int)+body.length))):=by
 have h:=BI row (some (.sh (.int pre.length))) body pre post fuel hr hb hp (by unfold fuel;rw[hr]at hl;simp at hl;omega)
 have e:((pre.length+body.length:Nat):Int)=(pre.length:Int)+body.length:=by omega
 rw[e]at h;simp -implicitDefEqProofs [rY,rD,uZ,ig,h]
theorem zM{m:Nm}(h:Nok m):∃ b r,PG.nb m=b ::r /\ (isF b \/ b=45):=by
 unfold PG.nb
 cases m.neg with
 |true=>exact⟨45,_,rfl,.inr rfl⟩
 | false=>
   rcases h.ip with e|⟨d,r,e,h1,h2,h3⟩
   . rw[e];exact⟨48,_,rfl,.inl (by decide)⟩
   . rw[e];exact⟨d,_,rfl,.inl (by unfold isF;omega)⟩
theorem Be(row pre post:List Int)(m:Nm)(h:Nok m)(i:Int)(hr:row=pre++(PG.nb m++post))(hp:post=[] \/ ∃ y r,post=y ::r /\ (wht y=true \/ y=44 \/ y=93 \/ y=125))(hl:row.length<=90000):
  je [.lst (row.map .int),.int pre.length,.int i]=.ok (.sh (.tup [.str "number",.int pre.length,.int ((pre.length:Int)+(PG.nb m).length),.int (i+1)])):=by
 obtain⟨b,r,e,hb⟩:=zM h
 have ha:atP (row.map PV.int) (pre.length:Int)=some (.int b):=jL (xs:=pre) (ys:=r++post) (by rw[hr,e];simp) rfl
 have hpe:=vQ row pre (PG.nb m) post hr (fun x hx=>by have:=E5 (AB h x hx);exact⟨this.1,this.2.1,this.2.2.1,this.2.2.2.1⟩) hp hl
 have z:∀ k:Int,(k=34 \/ k=91 \/ k=102 \/ k=110 \/ k=116 \/ k=123)->(b==k)=false:=fun k hk=>by
  unfold isF at hb;simp only[beq_eq_false_iff_ne,ne_eq];omega
 simp -implicitDefEqProofs [nV,nY,nO,uL,je,ha,ju,List.lookup,z 34 (by simp),z 91 (by simp),z 102 (by simp),z 110 (by simp),z 116 (by simp),z 123 (by simp),gNe,eqS,aH,hpe]
noncomputable def RA(W:List Int)(tree:List PV)(un:List OV)(P:List Int):Prop:=∃(k:Nat) (x y:Option Sl),k<=P.length /\ ∀ n,bX gL cB (n+k) (NS0 W [] [] 0 none none)=bX gL cB n (NS0 W tree un P.length x y)
theorem RA.nil(W:List Int):RA W [] [] []:=⟨0,none,none,by simp,fun n=>rfl⟩
theorem RA.go{W:List Int}{tree tree':List PV}{un un':List OV}{P Q:List Int}(h:RA W tree un P)(hP:P.length<W.length)(hQ:P.length<Q.length)(ht:∀ x y,∃ x' y',cB (NS0 W tree un P.length x y)=.nx (NS0 W tree' un' Q.length x' y')):RA W tree' un' Q:=by
 obtain⟨k,x,y,hk,h⟩:=h;obtain⟨x',y',ht⟩:=ht x y
 refine⟨k+1,x',y',by omega,fun n=>?_⟩
 rw[show n+(k+1)=(n+1)+k by omega,h (n+1),Ku (by omega) ht]
theorem RA.skip{W:List Int}{tree:List PV}{un:List OV}{P X:List Int}{b:Int}(h:RA W tree un P)(hW:W=P++b ::X)(hb:wht b=true \/ b=44 \/ b=58):RA W tree un (P++[b]):=by
 refine h.go (by rw[hW];simp) (by simp) fun x y=>?_
 have:=B1 (tree:=tree) (un:=un) (x:=x) (y:=y) (jL hW rfl) hb;rw[show((P.length:Int)+1)=((P++[b]).length:Int) by simp]at this
 exact⟨_,_,this⟩
theorem RA.br{W:List Int}{tree:List PV}{un:List OV}:∀{ws P X:List Int},RA W tree un P->W=P++(ws++X)->(∀ b∈ws,wht b=true)->RA W tree un (P++ws)
 |[],P,X,h,_,_=>by rw[List.append_nil];exact h
 | w ::ws,P,X,h,hW,hw=>by
   have h1:=h.skip (b:=w) (X:=ws++X) (by rw[hW];simp) (.inl (hw w List.mem_cons_self));have h2:=RA.br (ws:=ws) (X:=X) h1 (by rw[hW];simp) (fun b hb=>hw b (List.mem_cons_of_mem _ hb));rw[show P++w ::ws=P++[w]++ws by simp];exact h2
theorem RA.opn{W:List Int}{tree:List PV}{un:List OV}{P X:List Int}(k:Bool)(h:RA W tree un P)(hW:W=P++(if k then 91 else 123) ::X)(ht:tree.length<=90000)(hu:un.length<=90000):
  RA W (tree++[.tup [.str (kN k),.int P.length]]) (un++[.sh (.int (tree.length:Int))]) (P++[if k then 91 else 123]):=by
 refine h.go (by rw[hW];simp) (by simp) fun x y=>?_
 have:=Bw (row:=W) (tree:=tree) (un:=un) (p:=P.length) (x:=x) (y:=y) (!k) (jL (xs:=P) (ys:=X) (by rw[hW];cases k<;>rfl) rfl) ht hu;rw[show((P.length:Int)+1)=((P++[if k then 91 else 123]).length:Int) by simp]at this
 refine⟨some (.sh (.int (if(!k)then 123 else 91))),y,this.trans ?_⟩
 cases k<;>rfl
theorem RA.close{W:List Int}{tree:List PV}{un:List OV}{P X:List Int}{j:Nat}{nm:Str}{a:Int}{rest:List PV}(k:Bool)(h:RA W tree (un++[.sh (.int (j:Int))]) P)(hW:W=P++brk k ::X)(he:tree[j]?=some (.tup (.str nm ::.int a ::rest))):
  RA W (tree.set j (.tup [.str nm,.int a,.int (P.length+1),.int (tree.length:Int)])) un (P++[brk k]):=by
 refine h.go (by rw[hW];simp) (by simp) fun x y=>?_
 have:=AJ (row:=W) (tree:=tree) (un:=un) (p:=P.length) (x:=x) (y:=y) (!k) (jL (xs:=P) (ys:=X) (by rw[hW];cases k<;>rfl) rfl) he;rw[show NS0 W (tree.set j (.tup [.str nm,.int a,.int ((P.length:Int)+1),.int (tree.length:Int)])) un ((P.length:Int)+1)=NS0 W (tree.set j (.tup [.str nm,.int a,.int ((P.length:Int)+1),.int (tree.length:Int)])) un ((P++[brk k]).length:Int) by simp]at this
 exact⟨_,_,this⟩
noncomputable def Fw(X:List Int):Prop:=∃ ws r,(∀ b∈ws,wht b=true) /\ X=ws++r /\ (r=[] \/ ∃ y r',r=y ::r' /\ (y=44 \/ y=93 \/ y=125))
theorem Fw.num{X:List Int}(h:Fw X):X=[] \/ ∃ y r,X=y ::r /\ (wht y=true \/ y=44 \/ y=93 \/ y=125):=by
 obtain⟨ws,r,hw,rfl,hr⟩:=h
 cases ws with
 | nil=>
   rcases hr with z|⟨y,r',rfl,hy⟩
   . left;simpa using z
   . right;exact⟨y,r',rfl,.inr hy⟩
 |cons w ws=>right;exact⟨w,ws++r,rfl,.inl (hw w List.mem_cons_self)⟩
theorem Cz(row:List Int):∀(ws pre post:List Int) (n:Nat),row=pre++(ws++post)->(∀ b∈ws,wht b=true)->(post=[] \/ ∃ y r,post=y ::r /\ wht y=false)->ws.length<n ->
  bX dY mN n [some (.sh (.lst (row.map .int))),some (.sh (.int pre.length))]=.nx [some (.sh (.lst (row.map .int))),some (.sh (.int (pre++ws).length))]
 | [],pre,post,n,hr,_,hp,hn=>by
   obtain⟨n,rfl⟩:∃ m,n=m+1:=⟨n - 1,by simp at hn;omega⟩
   have hc:dY [some (.sh (.lst (row.map .int))),some (.sh (.int pre.length))]=.ok false:=by
    rcases hp with z|⟨y,r,z,hy⟩
    . have:row.length=pre.length:=by rw[hr,z];simp
      simp[dY,this]
    . have ha:atP (row.map PV.int) (pre.length:Int)=some (.int y):=jL (xs:=pre) (ys:=r) (by rw[hr,z];rfl) rfl
      simp[dY,ha,cj,hy]
   simp only[bX,hc,eK,Bool.false_eq_true,if_false,List.append_nil]
 | w ::ws,pre,post,n,hr,hw,hp,hn=>by
   obtain⟨n,rfl⟩:∃ m,n=m+1:=⟨n - 1,by simp at hn;omega⟩
   have ha:atP (row.map PV.int) (pre.length:Int)=some (.int w):=jL (xs:=pre) (ys:=ws++post) (by rw[hr];rfl) rfl
   have hl:pre.length<row.length:=by rw[hr];simp
   have hc:dY [some (.sh (.lst (row.map .int))),some (.sh (.int pre.length))]=.ok true:=by
    simp[dY,ha,cj,hw w List.mem_cons_self,hl]
   have hb:mN [some (.sh (.lst (row.map .int))),some (.sh (.int pre.length))]=.nx [some (.sh (.lst (row.map .int))),some (.sh (.int (pre++[w]).length))]:=by
    simp[mN]
   have ih:=Cz row ws (pre++[w]) post n (by rw[hr];simp) (fun b hb=>hw b (List.mem_cons_of_mem _ hb)) hp (by simp at hn;omega);simp only[bX,hc,eK,if_true,hb,iA,ih];simp
theorem tG(row pre ws post:List Int)(hr:row=pre++(ws++post))(hw:∀ b∈ws,wht b=true)(hp:post=[] \/ ∃ y r,post=y ::r /\ wht y=false)(hl:row.length<=90000):
  fm [.lst (row.map .int),.int pre.length]=.ok (.sh (.bl (decide (post.head?=some 58)))):=by
 have hlp:=Cz row ws pre post fuel hr hw hp (Au (by rw[hr]at hl;simp at hl;omega))
 have e0:fm [.lst (row.map .int),.int pre.length]=fin (nX [some (.sh (.lst (row.map .int))),some (.sh (.int pre.length))]):=rfl
 rw[e0];unfold nX;rw[bt hlp]
 rcases hp with z|⟨y,r,z,hy⟩
 . have hlen:row.length=(pre++ws).length:=by rw[hr,z];simp
   rw[z];simp -implicitDefEqProofs [xE,hlen]
 . have ha:atP (row.map PV.int) ((pre++ws).length:Int)=some (.int y):=jL (xs:=pre++ws) (ys:=r) (by rw[hr,z];simp) rfl
   have hlt:(pre++ws).length<row.length:=by rw[hr,z];simp
   rw[z];generalize (pre++ws).length=q at *;simp -implicitDefEqProofs [xE,hlt,gN,ha]
theorem AO(row pre post:List Int)(w:Wd)(i:Int)(hr:row=pre++(wdb w++post))(hp:post=[] \/ ∃ y r,post=y ::r /\ (wht y=true \/ y=44 \/ y=93 \/ y=125))(hl:row.length<=90000):
  je [.lst (row.map .int),.int pre.length,.int i]=.ok (.sh (.tup [.str (lfK (.wd w)),.int pre.length,.int ((pre.length:Int)+(wdb w).length),.int (i+1)])):=by
 have hpe:=vQ row pre (wdb w) post hr (fun x hx=>by
  have:x=110 \/ x=117 \/ x=108 \/ x=116 \/ x=114 \/ x=101 \/ x=102 \/ x=97 \/ x=115:=by cases w<;>simp[wdb]at hx<;>omega
  rcases this with z|z|z|z|z|z|z|z|z<;>subst z<;>decide) hp hl
 cases w with
 | null=>
   have ha:atP (row.map PV.int) (pre.length:Int)=some (.int 110):=jL (xs:=pre) (ys:=[117,108,108]++post) (by rw[hr];rfl) rfl
   simp -implicitDefEqProofs [nV,nY,nO,uL,je,ha,ju,List.lookup,gNe,eqS,aH,hpe,lfK]
 | tru=>
   have ha:atP (row.map PV.int) (pre.length:Int)=some (.int 116):=jL (xs:=pre) (ys:=[114,117,101]++post) (by rw[hr];rfl) rfl
   simp -implicitDefEqProofs [nV,nY,nO,uL,je,ha,ju,List.lookup,gNe,eqS,aH,hpe,lfK]
 | fal=>
   have ha:atP (row.map PV.int) (pre.length:Int)=some (.int 102):=jL (xs:=pre) (ys:=[97,108,115,101]++post) (by rw[hr];rfl) rfl
   simp -implicitDefEqProofs [nV,nY,nO,uL,je,ha,ju,List.lookup,gNe,eqS,aH,hpe,lfK]
theorem Dx(row pre post:List Int)(x:Lf)(hx:Lok x)(i:Int)(hr:row=pre++(lfb x++post))(hp:Fw post)(hl:row.length<=90000):
  je [.lst (row.map .int),.int pre.length,.int i]=.ok (.sh (.tup [.str (lfK x),.int pre.length,.int ((pre++lfb x).length:Int),.int (i+1)])):=by
 cases x with
 |wd w=>rw[AO row pre post w i hr hp.num hl];simp[lfb]
 |nm m=>rw[Be row pre post m hx i hr hp.num hl];simp[lfb,lfK]
 | tx l=>
   obtain⟨ws,r,hw,rfl,hr2⟩:=hp
   have hn:=tG row (pre++PG.txt l) ws r (by rw[hr];simp[lfb]) hw (by
    rcases hr2 with z|⟨y,r',z,hy⟩
    . exact .inl z
    . refine .inr ⟨y,r',z,?_⟩
      rcases hy with z|z|z<;>subst z<;>rfl) hl
   have hd:decide (r.head?=some 58)=false:=by
    rcases hr2 with z|⟨y,r',z,hy⟩
    . rw[z];rfl
    . rw[z];simp;omega
   rw[hd]at hn
   have hlen:((pre++PG.txt l).length:Int)=(pre.length:Int)+(PG.inner l).length+2:=by simp[PG.txt];omega
   rw[hlen]at hn;have:=u9 row pre (ws++r) l hx i false hr hl hn;rw[this];show _=OE.ok (.sh (.tup [.str "text",.int pre.length,.int ((pre++PG.txt l).length:Int),.int (i+1)]));rw[hlen];simp
theorem G7(x:Lf)(hx:Lok x):∃ b bs,lfb x=b ::bs /\ b≠91 /\ b≠123 /\ b≠93 /\ b≠125 /\ wht b=false /\ b≠44 /\ b≠58:=by
 cases x with
 |wd w=>cases w<;>exact⟨_,_,rfl,by decide,by decide,by decide,by decide,rfl,by decide,by decide⟩
 |tx l=>exact⟨34,_,rfl,by decide,by decide,by decide,by decide,rfl,by decide,by decide⟩
 | nm m=>
   obtain⟨b,r,e,hb⟩:=zM hx
   refine⟨b,r,e,?_⟩
   have hp:=E5 (AB hx b (by rw[e];simp))
   exact⟨hp.2.2.2.2.1,hp.2.2.2.2.2.1,hp.2.2.1,hp.2.2.2.1,hp.1,hp.2.1,hp.2.2.2.2.2.2.1⟩
theorem RA.leaf{W:List Int}{tree:List PV}{un:List OV}{P X:List Int}(h:RA W tree un P)(x:Lf)(hx:Lok x)(hW:W=P++(lfb x++X))(hX:Fw X)(hl:W.length<=90000)(ht:tree.length<=90000):
  RA W (tree++[.tup [.str (lfK x),.int P.length,.int ((P++lfb x).length:Int),.int ((tree.length:Int)+1)]]) un (P++lfb x):=by
 obtain⟨b,bs,e,h1,h2,h3,h4,h5,h6,h7⟩:=G7 x hx
 refine h.go (by rw[hW,e];simp) (by rw[e];simp) fun y z=>?_
 have:=xx (row:=W) (tree:=tree) (un:=un) (p:=P.length) (x:=y) (y:=z) (jL (xs:=P) (ys:=bs++X) (by rw[hW,e];rfl) rfl) h1 h2 h3 h4 h5 h6 h7 ht (Dx W P X x hx tree.length hW hX hl)
 exact⟨_,_,this⟩
theorem RA.name{W:List Int}{tree:List PV}{un:List OV}{P ws X:List Int}(h:RA W tree un P)(l:List Sg)(hx:∀ s∈l,Sok s)(hW:W=P++(PG.txt l++(ws++58 ::X)))(hw:∀ b∈ws,wht b=true)(hl:W.length<=90000)(ht:tree.length<=90000):
  RA W (tree++[.tup [.str "name",.int P.length,.int ((P++PG.txt l).length:Int),.int ((tree.length:Int)+1)]]) un (P++PG.txt l):=by
 have hn:=tG W (P++PG.txt l) ws (58 ::X) (by rw[hW];simp) hw (.inr ⟨58,X,rfl,rfl⟩) hl
 have hlen:((P++PG.txt l).length:Int)=(P.length:Int)+(PG.inner l).length+2:=by simp[PG.txt];omega
 rw[hlen]at hn;have hleaf:=u9 W P (ws++58 ::X) l hx tree.length true hW hl hn
 refine h.go (by rw[hW];simp[PG.txt]) (by simp[PG.txt]) fun y z=>?_
 have:=xx (row:=W) (tree:=tree) (un:=un) (p:=P.length) (b:=34) (x:=y) (y:=z) (jL (xs:=P) (ys:=PG.inner l++[34]++(ws++58 ::X)) (by rw[hW];simp[PG.txt]) rfl) (by decide) (by decide) (by decide) (by decide) rfl (by decide) (by decide) ht hleaf;rw[<- hlen]at this
 exact⟨_,_,this⟩
theorem RA.done{W:List Int}{tree:List PV}(h:RA W tree [] W)(hl:W.length<=90000):∃ x y,bX gL cB fuel (NS0 W [] [] 0 none none)=.nx (NS0 W tree [] W.length x y):=by
 obtain⟨k,x,y,hk,h⟩:=h
 refine⟨x,y,?_⟩
 obtain⟨n,hn⟩:∃ n,fuel=n+1+k:=⟨fuel - 1 - k,by unfold fuel;omega⟩
 rw[hn,h (n+1),MH (by omega)]
theorem tX{f:Fr}{nm:List Int}{v:PV}:∀{fs:List Fr},f∈fs->∃ g∈gn nm v fs,g.i=f.i
 |[],h=>absurd h (by simp)
 | g ::gs,h=>by
   rcases List.mem_cons.mp h with z|z
   . exact⟨_,List.mem_cons_self,by rw[z]⟩
   . exact⟨f,List.mem_cons_of_mem _ z,rfl⟩
noncomputable def unO(fs:List Fr):List OV:=fs.reverse.map fun f=>.sh (.int f.i)
theorem zW(f:Fr)(fs:List Fr):unO (f ::fs)=unO fs++[.sh (.int f.i)]:=by simp[unO]
theorem Cg(nm:List Int)(v:PV)(fs:List Fr):unO (gn nm v fs)=unO fs:=by cases fs<;>simp[unO,gn]
structure Sim(W:List Int)(B:Bd)(tree:List PV):Prop where
 ra:RA W tree (unO B.frs) B.row
 len:tree.length=B.nodes.length
 nam:∀(j:Nat) d,B.nodes[j]?=some d->d.s = "name" -> tree[j]?=some (.tup [.str "name",.int d.a,.int d.b,.int ((j:Int)+1)])
 opn:∀ f∈B.frs,∃ d,B.nodes[f.i]?=some d /\ d.s=kN f.k /\ tree[f.i]?=some (.tup [.str d.s,.int d.a])
 don:∀(j:Nat) d,B.nodes[j]?=some d->d.s ≠ "name" -> (∀ f∈B.frs,f.i≠j)->tree[j]?=some (.tup [.str d.s,.int d.a,.int d.b,.int d.c])
noncomputable def Dec:List Fr->Prop:=List.Pairwise fun f g=>g.i<f.i
theorem Df{nm:List Int}{v:PV}{fs:List Fr}(h:Dec fs):Dec (gn nm v fs):=by
 cases fs with
 |nil=>exact h
 | cons g gs=>
   unfold Dec at h ⊢
   rw[List.pairwise_cons]at h;exact List.pairwise_cons.mpr h
theorem qW(k:Bool):kN k ≠ "name":=by cases k<;>decide
theorem tT(x:Lf):lfK x ≠ "name":=by
 cases x with
 |wd w=>cases w<;>decide
 |nm _=>show "number" ≠ "name";decide
 |tx _=>show "text" ≠ "name";decide
theorem vv{nm:List Int}{v:PV}{g:Fr}:∀{fs:List Fr},g∈gn nm v fs->∃ f∈fs,f.i=g.i /\ f.k=g.k
 |[],h=>absurd h (by simp[gn])
 | f ::fs,h=>by
   rcases List.mem_cons.mp h with z|z
   . exact⟨f,List.mem_cons_self,by rw[z],by rw[z]⟩
   . exact⟨g,List.mem_cons_of_mem _ z,rfl,rfl⟩
theorem n4{B:Bd}{f:Fr}{fs:List Fr}(e:B.frs=f ::fs)(h1:inF fs=true->1<=f.i)(j:Nat):
  B.close.nodes[j]?=(B.nodes[j]?).map fun d=>⟨d.s,d.a,if j=f.i then B.row.length+1 else d.b,if j=f.i \/ (inF fs=true /\ j+1=f.i)then B.nodes.length else d.c⟩:=by
 unfold Bd.close;rw[e]
 simp only
 cases hF:inF fs with
 | false=>
   simp only[Bool.false_eq_true,if_false,false_and,or_false];rw[List.getElem?_modify]
   cases B.nodes[j]? with
   |none=>rfl
   | some d=>
     by_cases hj:j=f.i
     . simp[hj]
     . have:¬ f.i=j:=fun z=>hj z.symm
       simp[hj,this]
 | true=>
   have hi:=h1 hF;simp only[if_true,true_and];rw[List.getElem?_modify,List.getElem?_modify]
   cases B.nodes[j]? with
   |none=>rfl
   | some d=>
     by_cases hj:j=f.i
     . have:¬ f.i - 1=j:=by omega
       simp[hj]
     . have h2:¬ f.i=j:=fun z=>hj z.symm
       by_cases hk:j+1=f.i
       . have:f.i - 1=j:=by omega
         simp[hj,h2,hk,this]
       . have:¬ f.i - 1=j:=by omega
         simp[hj,h2,hk,this]
theorem kE{B:Bd}{f:Fr}{fs:List Fr}(e:B.frs=f ::fs):B.close.row=B.row++[brk f.k] /\ B.close.frs=gn f.nm (.tup [kS f.k,.tup f.items]) fs:=by
 unfold Bd.close;rw[e];exact⟨rfl,rfl⟩
noncomputable def mf(nds:List Nd):List Fr->Prop
 |f ::g ::fs=>(∀ d,nds[f.i - 1]?=some d->(d.s = "name" ↔ g.k=false)) /\ mf nds (g ::fs)
 |_=>True
theorem Sim.close{W X:List Int}{B:Bd}{tree:List PV}{f:Fr}{fs:List Fr}(h:Sim W B tree)(e:B.frs=f ::fs)(hW:W=B.close.row++X)(h1:inF fs=true->1<=f.i)(hd:Dec B.frs)(hp:mf B.nodes B.frs):
  ∃ tree',Sim W B.close tree':=by
 obtain⟨er,ef⟩:=kE e;obtain⟨d,hd1,hd2,hd3⟩:=h.opn f (by rw[e];exact List.mem_cons_self);have ra:=h.ra;rw[e,zW]at ra;rw[e]at hd hp;have hdec:=(List.pairwise_cons.mp hd).1;rw[er,List.append_assoc]at hW
 have hlt:f.i<tree.length:=(List.getElem?_eq_some_iff.mp hd3).1
 refine⟨tree.set f.i (.tup [.str d.s,.int d.a,.int (B.row.length+1),.int (tree.length:Int)]),?_,?_,?_,?_,?_⟩
 . rw[er,ef,Cg];exact RA.close f.k ra hW hd3
 . rw[List.length_set,h.len];unfold Bd.close;rw[e]
   simp only
   split<;>simp
 . intro j d' hj hs;rw[n4 e h1]at hj
   cases q:B.nodes[j]? with
   |none=>rw[q]at hj;simp at hj
   | some d0=>
     rw[q]at hj;simp at hj
     have hne:j≠f.i:=by
      intro z;rw[z,hd1]at q;cases q;rw[<- hj]at hs;exact qW _ (hd2.symm.trans hs)
     rw[List.getElem?_set_ne (fun z=>hne z.symm)]
     rw[<- hj]at hs ⊢
     simp only[hne,if_false];exact h.nam j d0 q hs
 . intro g hg;rw[ef]at hg;obtain⟨g',hg1,hg2,hg3⟩:=vv hg;obtain⟨d0,k1,k2,k3⟩:=h.opn g' (by rw[e];exact List.mem_cons_of_mem _ hg1)
   have hne:g.i≠f.i:=by have:=hdec g' hg1;omega
   rw[hg2]at k1 k3
   refine⟨_,by rw[n4 e h1,k1];rfl,by simp only;rw[k2,hg3],?_⟩
   rw[List.getElem?_set_ne (fun z=>hne z.symm)];exact k3
 . intro j d' hj hs ho;rw[n4 e h1]at hj
   cases q:B.nodes[j]? with
   |none=>rw[q]at hj;simp at hj
   | some d0=>
     rw[q]at hj;simp at hj
     by_cases hji:j=f.i
     . rw[hji]at q hj ⊢
       rw[hd1]at q;cases q;rw[<- hj,List.getElem?_set_self hlt];simp[h.len]
     . rw[List.getElem?_set_ne (fun z=>hji z.symm)]
       rw[<- hj]at hs ⊢
       have hnp:¬ (inF fs=true /\ j+1=f.i):=by
        intro z
        cases fs with
        |nil=>simp[inF]at z
        | cons g gs=>
          have hk:g.k=false:=by simpa [inF]using z.1
          have:=(hp.1 d0 (by rw[show f.i - 1=j by omega];exact q)).mpr hk;exact hs this
       simp only[hji,hnp,or_self,if_false];refine h.don j d0 q hs ?_;intro g hg;rw[e]at hg
       rcases List.mem_cons.mp hg with z|z
       . rw[z];exact fun y=>hji y.symm
       . obtain⟨g',k1,k2⟩:=tX (nm:=f.nm) (v:=.tup [kS f.k,.tup f.items]) z;rw[<- k2];exact ho g' (by rw[ef];exact k1)
theorem iw{α:Type}{l:List α}{x d:α}{j:Nat}(h:(l++[x])[j]?=some d):(l[j]?=some d /\ j<l.length) \/ (j=l.length /\ d=x):=by
 by_cases hlt:j<l.length
 . rw[List.getElem?_append_left hlt]at h;exact .inl ⟨h,hlt⟩
 . rw[List.getElem?_append_right (by omega)]at h
   have hz:j - l.length=0:=by
    rcases Nat.eq_zero_or_pos (j - l.length)with z|z
    . exact z
    . rw[List.getElem?_eq_none (by simp;omega)]at h;cases h
   rw[hz]at h;simp at h;exact .inr ⟨by omega,h.symm⟩
theorem fA{α:Type}{l:List α}{x d:α}{j:Nat}(h:l[j]?=some d):(l++[x])[j]?=some d:=by
 rw[List.getElem?_append_left (List.getElem?_eq_some_iff.mp h).1];exact h
theorem o9{α:Type}(l:List α)(x:α):(l++[x])[l.length]?=some x:=by simp
theorem E9{W Y:List Int}{tree:List PV}{un:List OV}{fs:List Fr}{row:List Int}{n:Int}(h:RA W tree un row)(hW:W=dA fs row n++Y):RA W tree un (dA fs row n):=by
 unfold dA at hW ⊢
 cases hf:full fs with
 | false=>
   rw[hf]at hW
   simp only[Bool.false_eq_true,if_false,List.append_nil]at hW ⊢
   exact h.br (X:=Y) (by rw[hW];simp) (dF _)
 | true=>
   rw[hf]at hW
   simp only[if_true]at hW ⊢
   have h1:=h.br (ws:=lwh (n/3)) (X:=44 ::(lwh (n/11)++Y)) (by rw[hW];simp) (dF _);have h2:=h1.skip (b:=44) (X:=lwh (n/11)++Y) (by rw[hW];simp) (.inr (.inl rfl));have h3:=h2.br (ws:=lwh (n/11)) (X:=Y) (by rw[hW];simp) (dF _)
   simpa using h3
theorem Sim.beg{W Y:List Int}{B:Bd}{tree:List PV}(ns:List Int)(n:Int)(h:Sim W B tree)(hW:W=bx ns B n++Y)(hl:W.length<=90000)(hn:B.nodes.length<=9000):
  ∃ tree',Sim W ⟨bx ns B n,aP ns B n,B.frs,B.val⟩ tree':=by
 cases hF:inF B.frs with
 | false=>
   have er:bx ns B n=dA B.frs B.row n:=by unfold bx;rw[if_neg (by rw[hF];simp)]
   have en:aP ns B n=B.nodes:=by unfold aP;rw[if_neg (by rw[hF];simp)]
   rw[er]at hW ⊢
   rw[en]
   exact⟨tree,E9 h.ra hW,h.len,h.nam,h.opn,h.don⟩
 | true=>
   have er:bx ns B n=dA B.frs B.row n++PG.txt (iF ns n)++oe ns n:=by unfold bx;rw[if_pos hF]
   have en:aP ns B n=B.nodes++[⟨"name",(dA B.frs B.row n).length,(dA B.frs B.row n++PG.txt (iF ns n)).length,0⟩]:=by unfold aP;rw[if_pos hF]
   rw[er]at hW ⊢
   rw[en];have htl:=h.len;have h1:=E9 (fs:=B.frs) (n:=n) (Y:=PG.txt (iF ns n)++oe ns n++Y) h.ra (by rw[hW];simp);generalize dA B.frs B.row n=P at *
   unfold oe at hW ⊢
   have h2:=h1.name (ws:=lwh (n/19)) (X:=lwh (n/23)++Y) (iF ns n) (vI ns n) (by rw[hW];simp) (dF _) hl (by omega);have h3:=h2.br (ws:=lwh (n/19)) (X:=58 ::(lwh (n/23)++Y)) (by rw[hW];simp) (dF _);have h4:=h3.skip (b:=58) (X:=lwh (n/23)++Y) (by rw[hW];simp) (.inr (.inr rfl));have h5:=h4.br (ws:=lwh (n/23)) (X:=Y) (by rw[hW];simp) (dF _)
   refine⟨tree++[.tup [.str "name",.int P.length,.int ((P++PG.txt (iF ns n)).length:Int),.int ((tree.length:Int)+1)]],?_,by simp[htl],?_,?_,?_⟩
   . simpa using h5
   . intro j d hj hs
     rcases iw hj with⟨q,_⟩|⟨q1,q2⟩
     . exact fA (h.nam j d q hs)
     . rw[q1,q2,<- htl];exact o9 _ _
   . intro f hf;obtain⟨d,k1,k2,k3⟩:=h.opn f hf
     exact⟨d,fA k1,k2,fA k3⟩
   . intro j d hj hs ho
     rcases iw hj with⟨q,_⟩|⟨q1,q2⟩
     . exact fA (h.don j d q hs ho)
     . rw[q2]at hs;exact absurd rfl hs
theorem Sim.open{W X:List Int}{B:Bd}{tree:List PV}(ns:List Int)(n:Int)(h:Sim W ⟨bx ns B n,aP ns B n,B.frs,B.val⟩ tree)(hW:W=(B.opn ns n).row++X)(hn:tree.length<=9000)(hd:B.frs.length<=9000)(hF:∀ f∈B.frs,f.i<(aP ns B n).length):
  ∃ tree',Sim W (B.opn ns n) tree':=by
 have htl:=h.len;simp only at htl
 unfold Bd.opn at hW ⊢
 simp only at hW;have hr:=RA.opn (decide (n/5%2=0)) (X:=X) h.ra (by rw[hW];simp) (by omega) (by unfold unO;simp;omega);simp only[decide_eq_true_eq]at hr
 refine⟨tree++[.tup [.str (kN (n/5%2=0)),.int ((bx ns B n).length:Int)]],?_,?_,?_,?_,?_⟩
 . rw[zW]
   simp only
   rw[<- htl];exact hr
 . simp[htl]
 . intro j d hj hs
   rcases iw hj with⟨q,_⟩|⟨q1,q2⟩
   . exact fA (h.nam j d q hs)
   . rw[q2]at hs;exact absurd hs (qW _)
 . intro f hf
   rcases List.mem_cons.mp hf with z|z
   . subst z
     refine⟨_,o9 _ _,rfl,?_⟩
     simp only
     rw[<- htl];exact o9 _ _
   . obtain⟨d,k1,k2,k3⟩:=h.opn f z
     exact⟨d,fA k1,k2,fA k3⟩
 . intro j d hj hs ho
   rcases iw hj with⟨q,_⟩|⟨q1,q2⟩
   . exact fA (h.don j d q hs fun f hf=>ho f (List.mem_cons_of_mem _ hf))
   . exact absurd q1.symm (ho _ List.mem_cons_self)
theorem Ay{α:Type}(g:α->α):∀(l:List α) (x y:α),(l++[x]++[y]).modify ((l++[x]++[y]).length - 2) g=l++[g x]++[y]
 |[],x,y=>rfl
 | a ::l,x,y=>by
   have:=Ay g l x y
   have e:(a ::l++[x]++[y]).length - 2=(l++[x]++[y]).length - 2+1:=by simp
   rw[e];simp only[List.cons_append,List.modify_succ_cons,this]
theorem so(ns:List Int)(B:Bd)(n:Int):(B.leaf ns n).nodes=(if inF B.frs then B.nodes++[⟨"name",(dA B.frs B.row n).length,(dA B.frs B.row n++PG.txt (iF ns n)).length,(B.nodes.length+2:Int)⟩]else B.nodes)++[⟨lfK (gw ns n),(bx ns B n).length,(bx ns B n++lfb (gw ns n)).length,(aP ns B n).length+1⟩]:=by
 unfold Bd.leaf
 cases hF:inF B.frs with
 |false=>simp[aP,hF]
 | true=>
   have en:aP ns B n=B.nodes++[⟨"name",(dA B.frs B.row n).length,(dA B.frs B.row n++PG.txt (iF ns n)).length,0⟩]:=by unfold aP;rw[if_pos hF]
   simp only[if_true,en];rw[Ay];simp
theorem Sim.leaf{W X:List Int}{B:Bd}{tree:List PV}(ns:List Int)(n:Int)(h:Sim W ⟨bx ns B n,aP ns B n,B.frs,B.val⟩ tree)(hW:W=(B.leaf ns n).row++X)(hX:Fw X)(hl:W.length<=90000)(hn:tree.length<=9000)(hF:∀ f∈B.frs,f.i<(aP ns B n).length):
  ∃ tree',Sim W (B.leaf ns n) tree':=by
 have htl:=h.len;simp only at htl
 have er:(B.leaf ns n).row=bx ns B n++lfb (gw ns n):=rfl
 have ef:(B.leaf ns n).frs=gn (eN ns B n) (lfV ns n) B.frs:=rfl
 rw[er]at hW;have hr:=h.ra.leaf (X:=X) (gw ns n) (y9 ns n) (by rw[hW];simp) hX hl (by omega)
 have hget:∀(j:Nat) d,(B.leaf ns n).nodes[j]?=some d->(∃ d0,(aP ns B n)[j]?=some d0 /\ d.s=d0.s /\ d.a=d0.a /\ d.b=d0.b /\ (d.s ≠ "name" -> d.c=d0.c)) \/ (j=(aP ns B n).length /\ d=⟨lfK (gw ns n),(bx ns B n).length,(bx ns B n++lfb (gw ns n)).length,(aP ns B n).length+1⟩):=by
  intro j d hj;rw[so]at hj
  cases hF:inF B.frs with
  | false=>
    have en:aP ns B n=B.nodes:=by unfold aP;rw[if_neg (by rw[hF];simp)]
    rw[hF]at hj;simp only[Bool.false_eq_true,if_false]at hj
    rcases iw hj with⟨q,_⟩|⟨q1,q2⟩
    . exact .inl ⟨d,by rw[en];exact q,rfl,rfl,rfl,fun _=>rfl⟩
    . exact .inr ⟨by rw[en];exact q1,q2⟩
  | true=>
    have en:aP ns B n=B.nodes++[⟨"name",(dA B.frs B.row n).length,(dA B.frs B.row n++PG.txt (iF ns n)).length,0⟩]:=by unfold aP;rw[if_pos hF]
    rw[hF]at hj;simp only[if_true]at hj
    rcases iw hj with⟨q,_⟩|⟨q1,q2⟩
    . left
      rcases iw q with⟨y,_⟩|⟨y1,y2⟩
      . exact⟨d,by rw[en];exact fA y,rfl,rfl,rfl,fun _=>rfl⟩
      . refine⟨_,by rw[en,y1];exact o9 _ _,by rw[y2],by rw[y2],by rw[y2],fun z=>?_⟩
        rw[y2]at z;exact absurd rfl z
    . exact .inr ⟨by rw[en,q1];simp,q2⟩
 have hput:∀(j:Nat) d0,(aP ns B n)[j]?=some d0->∃ d,(B.leaf ns n).nodes[j]?=some d /\ d.s=d0.s /\ d.a=d0.a:=by
  intro j d0 hj
  have hlen:(B.leaf ns n).nodes.length=(aP ns B n).length+1:=by unfold Bd.leaf;simp only;split<;>simp
  have hlt:j<(B.leaf ns n).nodes.length:=by have:=(List.getElem?_eq_some_iff.mp hj).1;omega
  have hq:(B.leaf ns n).nodes[j]?=some ((B.leaf ns n).nodes[j]):=List.getElem?_eq_getElem hlt
  rcases hget j _ hq with⟨d1,k1,k2,k3,_⟩|⟨k1,_⟩
  . rw[hj]at k1;cases k1;exact⟨_,hq,k2,k3⟩
  . have:=(List.getElem?_eq_some_iff.mp hj).1;omega
 refine⟨tree++[.tup [.str (lfK (gw ns n)),.int ((bx ns B n).length:Int),.int ((bx ns B n++lfb (gw ns n)).length:Int),.int ((tree.length:Int)+1)]],?_,?_,?_,?_,?_⟩
 . rw[ef,Cg,er];exact hr
 . have hlen:(B.leaf ns n).nodes.length=(aP ns B n).length+1:=by unfold Bd.leaf;simp only;split<;>simp
   rw[hlen];simp[htl]
 . intro j d hj hs
   rcases hget j d hj with⟨d0,k1,k2,k3,k4,_⟩|⟨_,k2⟩
   . rw[k2]at hs;rw[k3,k4];exact fA (h.nam j d0 k1 hs)
   . rw[k2]at hs;exact absurd hs (tT _)
 . intro g hg;rw[ef]at hg;obtain⟨g',hg1,hg2,hg3⟩:=vv hg;obtain⟨d0,k1,k2,k3⟩:=h.opn g' hg1;rw[hg2]at k1 k3;obtain⟨d,m1,m2,m3⟩:=hput _ d0 k1
   refine⟨d,m1,by rw[m2,k2,hg3],?_⟩
   rw[m2,m3];exact fA k3
 . intro j d hj hs ho
   rcases hget j d hj with⟨d0,k1,k2,k3,k4,k5⟩|⟨k1,k2⟩
   . rw[k5 hs,k2,k3,k4];refine fA (h.don j d0 k1 (by rw[<- k2];exact hs) ?_);intro g hg;obtain⟨g',q1,q2⟩:=tX (nm:=eN ns B n) (v:=lfV ns n) hg;rw[<- q2];exact ho g' (by rw[ef];exact q1)
   . rw[k1,k2,<- htl];exact o9 _ _
structure NmI(B:Bd):Prop where
 dec:Dec B.frs
 prev:mf B.nodes B.frs
 last:∀(j:Nat) d,B.nodes[j]?=some d->j+1=B.nodes.length->d.s ≠ "name"
 nxt:∀(j:Nat) d,B.nodes[j]?=some d->d.s = "name" -> ∃ e,B.nodes[j+1]?=some e /\ e.s ≠ "name" /\ ((∃ f∈B.frs,f.i=j+1) \/ e.c=d.c)
 opk:∀ f∈B.frs,∃ d,B.nodes[f.i]?=some d /\ d.s=kN f.k
theorem Am{nds:List Nd}{nm:List Int}{v:PV}{fs:List Fr}(h:mf nds fs):mf nds (gn nm v fs):=by
 cases fs with
 |nil=>trivial
 | cons f fs=>cases fs with
   |nil=>trivial
   |cons g gs=>exact h
theorem DB{nds:List Nd}{f:Fr}{fs:List Fr}(h:mf nds (f ::fs)):mf nds fs:=by
 cases fs with
 |nil=>trivial
 |cons g gs=>exact h.2
theorem oK{nds nds':List Nd}:∀{fs:List Fr},(∀ f∈fs,∀ d',nds'[f.i - 1]?=some d'->∃ d,nds[f.i - 1]?=some d /\ d.s=d'.s)->mf nds fs->mf nds' fs
 |[],_,_=>trivial
 |[_],_,_=>trivial
 | f ::g ::fs,hc,h=>by
   refine⟨fun d' hd'=>?_,oK (fun f' hf'=>hc f' (List.mem_cons_of_mem _ hf')) h.2⟩
   obtain⟨d,h1,h2⟩:=hc f List.mem_cons_self d' hd';rw[<- h2];exact h.1 d h1
theorem NmI.close{B:Bd}{f:Fr}{fs:List Fr}(h:NmI B)(e:B.frs=f ::fs)(h1:inF fs=true->1<=f.i)(hlo:xq B.frs):NmI B.close:=by
 obtain⟨er,ef⟩:=kE e
 have hlen:B.close.nodes.length=B.nodes.length:=by unfold Bd.close;rw[e];simp only;split<;>simp
 have hdec:=h.dec;have hprev:=h.prev;rw[e]at hdec hprev hlo;obtain⟨df,hf1,hf2⟩:=h.opk f (by rw[e];exact List.mem_cons_self)
 have back:∀(j:Nat) d',B.close.nodes[j]?=some d'->∃ d,B.nodes[j]?=some d /\ d.s=d'.s /\ d'=⟨d.s,d.a,if j=f.i then B.row.length+1 else d.b,if j=f.i \/ (inF fs=true /\ j+1=f.i)then B.nodes.length else d.c⟩:=by
  intro j d' hj;rw[n4 e h1]at hj
  cases q:B.nodes[j]? with
  |none=>rw[q]at hj;simp at hj
  | some d0=>
    rw[q]at hj;simp only[Option.map_some,Option.some.injEq]at hj
    exact⟨d0,rfl,by rw[<- hj],hj.symm⟩
 have fwd:∀(j:Nat) d,B.nodes[j]?=some d->B.close.nodes[j]?=some ⟨d.s,d.a,if j=f.i then B.row.length+1 else d.b,if j=f.i \/ (inF fs=true /\ j+1=f.i)then B.nodes.length else d.c⟩:=by
  intro j d hj;rw[n4 e h1,hj];rfl
 have nameprev:∀ d,B.nodes[f.i - 1]?=some d->inF fs=true->d.s = "name":=by
  intro d hd hF
  cases fs with
  |nil=>simp[inF]at hF
  |cons g gs=>exact(hprev.1 d hd).mpr (by simpa [inF]using hF)
 refine⟨?_,?_,?_,?_,?_⟩
 . rw[ef];exact Df (List.pairwise_cons.mp hdec).2
 . rw[ef];refine Am (oK (fun g _ d' hd'=>?_) (DB hprev));obtain⟨d,k1,k2,_⟩:=back _ d' hd'
   exact⟨d,k1,k2⟩
 . intro j d' hj hl;obtain⟨d,k1,k2,_⟩:=back j d' hj;rw[<- k2];exact h.last j d k1 (by rw[<- hlen];exact hl)
 . intro j d' hj hs;obtain⟨d,k1,k2,k3⟩:=back j d' hj;obtain⟨e0,m1,m2,m3⟩:=h.nxt j d k1 (by rw[k2];exact hs)
   have hjf:j≠f.i:=by
    intro z;rw[z,hf1]at k1;cases k1;rw[<- k2,hf2]at hs;exact qW _ hs
   refine⟨_,fwd _ e0 m1,m2,?_⟩
   by_cases hjn:j+1=f.i
   . right
     have hF:inF fs=true:=by
      cases fs with
      |nil=>have:f.i=0:=hlo;omega
      | cons g gs=>
        have:=(hprev.1 d (by rw[show f.i - 1=j by omega];exact k1)).mp (by rw[k2];exact hs);simp[inF,this]
     rw[k3];simp[hjn,hF]
   . have hn2:¬ (inF fs = true /\ j + 1 + 1 = f.i):=by
      intro z;exact m2 (nameprev e0 (by rw[show f.i - 1=j+1 by omega];exact m1) z.1)
     rcases m3 with⟨g,hg,hgi⟩|hc
     . left;rw[e]at hg
       rcases List.mem_cons.mp hg with z|z
       . rw[z]at hgi;exact absurd hgi.symm hjn
       . obtain⟨g',q1,q2⟩:=tX (nm:=f.nm) (v:=.tup [kS f.k,.tup f.items]) z
         exact⟨g',by rw[ef];exact q1,by rw[q2,hgi]⟩
     . right;rw[k3];simp only[hjf,hjn,hn2,and_false,or_self,if_false];exact hc
 . intro g hg;rw[ef]at hg;obtain⟨g',q1,q2,q3⟩:=vv hg;obtain⟨d,m1,m2⟩:=h.opk g' (by rw[e];exact List.mem_cons_of_mem _ q1);rw[q2]at m1
   exact⟨_,fwd _ d m1,by simp only;rw[m2,q3]⟩
theorem yP{ns:List Int}{B:Bd}{n:Int}{j:Nat}{d:Nd}(h:(aP ns B n)[j]?=some d):(B.nodes[j]?=some d /\ j<B.nodes.length) \/ (inF B.frs=true /\ j=B.nodes.length /\ d.s = "name"):=by
 unfold aP at h;split at h
 . rename_i hF
   rcases iw h with z|⟨z1,z2⟩
   . exact .inl z
   . exact .inr ⟨hF,z1,by rw[z2]⟩
 . exact .inl ⟨h,(List.getElem?_eq_some_iff.mp h).1⟩
theorem Ce{ns:List Int}{B:Bd}{n:Int}{j:Nat}{d:Nd}(h:B.nodes[j]?=some d):(aP ns B n)[j]?=some d:=by
 unfold aP;split
 . exact fA h
 . exact h
theorem NmI.opn{ns:List Int}{B:Bd}{n:Int}(h:NmI B)(hlt:∀ f∈B.frs,f.i<B.nodes.length):NmI (B.opn ns n):=by
 have hlb:=fX ns B n
 have hle:B.nodes.length<=(aP ns B n).length:=by omega
 refine⟨?_,?_,?_,?_,?_⟩
 . exact List.pairwise_cons.mpr ⟨fun g hg=>Nat.lt_of_lt_of_le (hlt g hg) hle,h.dec⟩
 . show mf (aP ns B n++[_]) (⟨_,[],(aP ns B n).length,_⟩ ::B.frs)
   have rest:mf (aP ns B n++[⟨kN (n/5%2=0),(bx ns B n).length,0,0⟩]) B.frs:=by
    refine oK (fun f hf d' hd'=>?_) h.prev;have:=hlt f hf;rw[List.getElem?_append_left (by omega)]at hd'
    rcases yP hd' with z|⟨_,z,_⟩
    . exact⟨d',z.1,rfl⟩
    . omega
   cases e:B.frs with
   |nil=>trivial
   | cons g gs=>
     rw[e]at rest hlt hlb
     refine⟨fun d hd=>?_,rest⟩
     have hg:=hlt g List.mem_cons_self
     replace hd:(aP ns B n++[⟨kN (n/5%2=0),(bx ns B n).length,0,0⟩])[(aP ns B n).length - 1]?=some d:=hd
     rw[List.getElem?_append_left (by omega)]at hd
     rcases yP hd with⟨z,z2⟩|⟨z1,z2,z3⟩
     . have hk:inF (g ::gs) = false:=by
        cases q:inF (g ::gs)with
        |false=>rfl
        |true=>rw[q]at hlb;simp at hlb;omega
       rw[hk]at hlb;simp at hlb
       have:d.s ≠ "name":=h.last _ d z (by omega)
       simp only[inF]at hk;constructor
       . intro y;exact absurd y this
       . intro y;rw[y]at hk;simp at hk
     . rw[e]at z1
       have hk:g.k=false:=by simpa [inF]using z1
       exact⟨fun _=>hk,fun _=>z3⟩
 . intro j d hj hl
   rcases iw hj with⟨_,z⟩|⟨_,z⟩
   . have hl2:(B.opn ns n).nodes.length=(aP ns B n).length+1:=by simp[Bd.opn]
     omega
   . rw[z];exact qW _
 . intro j d hj hs
   rcases iw hj with⟨z,_⟩|⟨_,z⟩
   . rcases yP z with⟨y,_⟩|⟨y1,y2,y3⟩
     . obtain⟨e,m1,m2,m3⟩:=h.nxt j d y hs
       refine⟨e,fA (Ce m1),m2,?_⟩
       rcases m3 with⟨f,q1,q2⟩|q
       . exact .inl ⟨f,List.mem_cons_of_mem _ q1,q2⟩
       . exact .inr q
     . rw[y1]at hlb;simp at hlb
       refine⟨⟨kN (n/5%2=0),(bx ns B n).length,0,0⟩,?_,qW _,.inl ⟨_,List.mem_cons_self,by simp only;omega⟩⟩
       rw[show j+1=(aP ns B n).length by omega];exact o9 _ _
   . rw[z]at hs;exact absurd hs (qW _)
 . intro f hf
   rcases List.mem_cons.mp hf with z|z
   . subst z
     exact⟨_,o9 _ _,rfl⟩
   . obtain⟨d,m1,m2⟩:=h.opk f z
     exact⟨d,fA (Ce m1),m2⟩
theorem q8{ns:List Int}{B:Bd}{n:Int}{j:Nat}{d:Nd}(h:(B.leaf ns n).nodes[j]?=some d):(B.nodes[j]?=some d /\ j<B.nodes.length) \/ (inF B.frs=true /\ j=B.nodes.length /\ d.s = "name" /\ d.c=(B.nodes.length:Int)+2) \/ (j+1=(B.leaf ns n).nodes.length /\ d.s=lfK (gw ns n) /\ d.c=(j:Int)+1):=by
 have hlen:(B.leaf ns n).nodes.length=(aP ns B n).length+1:=by unfold Bd.leaf;simp only;split<;>simp
 have hlb:=fX ns B n;rw[so]at h
 cases hF:inF B.frs with
 | false=>
   rw[hF]at h hlb;simp only[Bool.false_eq_true,if_false,Nat.add_zero]at h hlb
   rcases iw h with z|⟨z1,z2⟩
   . exact .inl z
   . exact .inr (.inr ⟨by omega,by rw[z2],by rw[z2,z1,hlb]⟩)
 | true=>
   rw[hF]at h hlb;simp only[if_true]at h hlb
   rcases iw h with⟨z,_⟩|⟨z1,z2⟩
   . rcases iw z with y|⟨y1,y2⟩
     . exact .inl y
     . exact .inr (.inl ⟨rfl,y1,by rw[y2],by rw[y2]⟩)
   . refine .inr (.inr ⟨?_,by rw[z2],?_⟩)
     . simp at z1;omega
     . rw[z2,z1,hlb];simp
theorem xy{ns:List Int}{B:Bd}{n:Int}{j:Nat}{d:Nd}(h:B.nodes[j]?=some d):(B.leaf ns n).nodes[j]?=some d:=by
 rw[so];refine fA ?_;split
 . exact fA h
 . exact h
theorem NmI.leaf{ns:List Int}{B:Bd}{n:Int}(h:NmI B)(hlt:∀ f∈B.frs,f.i<B.nodes.length):NmI (B.leaf ns n):=by
 have ef:(B.leaf ns n).frs=gn (eN ns B n) (lfV ns n) B.frs:=rfl
 have hlen:(B.leaf ns n).nodes.length=(aP ns B n).length+1:=by unfold Bd.leaf;simp only;split<;>simp
 have hlb:=fX ns B n
 refine⟨?_,?_,?_,?_,?_⟩
 . rw[ef];exact Df h.dec
 . rw[ef];refine Am (oK (fun f hf d' hd'=>?_) h.prev);have:=hlt f hf
   rcases q8 hd' with z|⟨_,z,_⟩|⟨z,_⟩
   . exact⟨d',z.1,rfl⟩
   . omega
   . rw[hlen]at z;omega
 . intro j d hj hl
   rcases q8 hj with⟨_,z⟩|⟨z1,z2,_⟩|⟨_,z,_⟩
   . omega
   . rw[z1]at hlb;simp at hlb;omega
   . rw[z];exact tT _
 . intro j d hj hs
   rcases q8 hj with⟨z,_⟩|⟨z1,z2,z3,z4⟩|⟨_,z,_⟩
   . obtain⟨e,m1,m2,m3⟩:=h.nxt j d z hs
     refine⟨e,xy m1,m2,?_⟩
     rcases m3 with⟨f,q1,q2⟩|q
     . obtain⟨g',y1,y2⟩:=tX (nm:=eN ns B n) (v:=lfV ns n) q1;exact .inl ⟨g',by rw[ef];exact y1,by rw[y2,q2]⟩
     . exact .inr q
   . rw[z1]at hlb;simp at hlb
     have hlt2:j+1<(B.leaf ns n).nodes.length:=by omega
     have hq:(B.leaf ns n).nodes[j+1]?=some ((B.leaf ns n).nodes[j+1]):=List.getElem?_eq_getElem hlt2
     refine⟨_,hq,?_⟩
     rcases q8 hq with⟨_,y⟩|⟨_,y,_⟩|⟨_,y1,y2⟩
     . omega
     . omega
     . refine⟨by rw[y1];exact tT _,.inr ?_⟩
       rw[y2,z4,z2];omega
   . rw[z]at hs;exact absurd hs (tT _)
 . intro g hg;rw[ef]at hg;obtain⟨g',q1,q2,q3⟩:=vv hg;obtain⟨d,m1,m2⟩:=h.opk g' q1;rw[q2]at m1
   exact⟨d,xy m1,by rw[m2,q3]⟩
noncomputable def jW(ns:List Int)(B:Bd):List Int:=(cls B B.frs.length).row++lwh (PG.mix ns 61)
noncomputable def Vd(B:Bd):Prop:=∀ f fs,B.frs=f ::fs->f.items≠[]
theorem xO(B:Bd):∃ x,B.close.row=B.row++x:=by
 unfold Bd.close
 cases B.frs with
 |nil=>exact⟨[],by simp⟩
 |cons f fs=>exact⟨_,rfl⟩
theorem vG:∀(j:Nat) (B:Bd),∃ x,(cls B j).row=B.row++x
 |0,B=>⟨[],by simp[cls]⟩
 | j+1,B=>by
   obtain⟨x,hx⟩:=xO B;obtain⟨y,hy⟩:=vG j B.close
   exact⟨x++y,by show(cls B.close j).row=_;rw[hy,hx,List.append_assoc]⟩
theorem G4(ns:List Int)(B:Bd):∃ x,jW ns B=B.row++x:=by
 obtain⟨x,hx⟩:=vG B.frs.length B
 exact⟨x++lwh (PG.mix ns 61),by unfold jW;rw[hx,List.append_assoc]⟩
theorem Mq(ns:List Int)(B:Bd)(n:Int):∃ x,bx ns B n=B.row++x:=by
 unfold bx dA;split
 . exact⟨_,by simp only[List.append_assoc];rfl⟩
 . exact⟨_,by simp only[List.append_assoc];rfl⟩
theorem EZ(ns:List Int)(B:Bd)(k:Nat):∃ x,(B.step ns k).row=B.row++x:=by
 unfold Bd.step;split
 . obtain⟨x,hx⟩:=xO { B with row:=B.row++lwh (PG.mix ns k/3) }
   exact⟨lwh (PG.mix ns k/3)++x,by rw[hx];simp⟩
 . split
   . obtain⟨x,hx⟩:=Mq ns B (PG.mix ns k);split
     . exact⟨x++_,by show bx ns B _++_=_;rw[hx,List.append_assoc]⟩
     . exact⟨x++_,by show bx ns B _++_=_;rw[hx,List.append_assoc]⟩
   . exact⟨[],by simp⟩
theorem vx(ns:List Int):∀(j k:Nat) (B:Bd),∃ x,jW ns (bld ns B k j)=B.row++x
 |0,k,B=>G4 ns B
 | j+1,k,B=>by
   obtain⟨x,hx⟩:=EZ ns B k;obtain⟨y,hy⟩:=vx ns j (k+1) (B.step ns k)
   exact⟨x++y,by show jW ns (bld ns (B.step ns k) (k+1) j)=_;rw[hy,hx,List.append_assoc]⟩
theorem FL(ws:List Int)(hw:∀ b∈ws,wht b=true)(k:Bool)(r:List Int):Fw (ws++brk k ::r):=⟨ws,brk k ::r,hw,rfl,.inr ⟨_,_,rfl,by cases k<;>simp[brk]⟩⟩
theorem later(ns:List Int):∀(j k:Nat) (B:Bd),k≠0->Vd B->∃ X,jW ns (bld ns B k j)=B.row++X /\ Fw X
 | 0,k,B,_,_=>by
   show ∃ X,jW ns B=B.row++X /\ Fw X
   cases e:B.frs with
   | nil=>
     refine⟨lwh (PG.mix ns 61),?_,lwh (PG.mix ns 61),[],dF _,by simp,.inl rfl⟩
     unfold jW;rw[e];rfl
   | cons f fs=>
     obtain⟨x,hx⟩:=vG fs.length B.close
     refine⟨brk f.k ::(x++lwh (PG.mix ns 61)),?_,FL [] (by simp) f.k _⟩
     unfold jW;rw[e]
     show(cls B.close fs.length).row++_=_
     rw[hx,(kE e).1];simp
 | j+1,k,B,hk,hV=>by
   show ∃ X,jW ns (bld ns (B.step ns k) (k+1) j)=B.row++X /\ Fw X
   obtain⟨y,hy⟩:=vx ns j (k+1) (B.step ns k)
   by_cases hc:B.frs.isEmpty=false /\ PG.mix ns k%5=1
   . have es:B.step ns k=Bd.close { B with row:=B.row++lwh (PG.mix ns k/3) }:=by unfold Bd.step;rw[if_pos hc]
     rw[es]at hy ⊢
     obtain⟨f,fs,e⟩:∃ f fs,B.frs=f ::fs:=by
      cases e:B.frs with
      |nil=>rw[e]at hc;simp at hc
      |cons f fs=>exact⟨f,fs,rfl⟩
     . rw[(kE (B:={ B with row:=B.row++lwh (PG.mix ns k/3) }) e).1]at hy
       exact⟨lwh (PG.mix ns k/3)++brk f.k ::y,by rw[hy];simp,FL _ (dF _) f.k y⟩
   . by_cases hc2:B.frs.isEmpty=false \/ k=0
     . cases e:B.frs with
       |nil=>rw[e]at hc2;simp at hc2;exact absurd hc2 hk
       | cons f fs=>
         have hi:=hV f fs e
         have hfull:full B.frs=true:=by
          rw[e]
          cases q:f.items with
          |nil=>exact absurd q hi
          |cons _ _=>simp[full,q]
         have hb:∃ x,bx ns B (PG.mix ns k)=B.row++(lwh (PG.mix ns k/3)++44 ::x):=by
          unfold bx dA;rw[hfull];split
          . exact⟨_,by simp only[if_true,List.append_assoc,List.cons_append];rfl⟩
          . exact⟨_,by simp only[if_true,List.append_assoc];rfl⟩
         obtain⟨x,hx⟩:=hb
         have hs:∃ z,(B.step ns k).row=bx ns B (PG.mix ns k)++z:=by
          unfold Bd.step;rw[if_neg hc,if_pos hc2];split
          . exact⟨_,rfl⟩
          . exact⟨_,rfl⟩
         obtain⟨z,hz⟩:=hs;rw[hz,hx]at hy
         exact⟨lwh (PG.mix ns k/3)++44 ::(x++(z++y)),by rw[hy];simp,_,_,dF _,rfl,.inr ⟨_,_,rfl,.inl rfl⟩⟩
     . have es:B.step ns k=B:=by unfold Bd.step;rw[if_neg hc,if_neg hc2]
       rw[es];exact later ns j (k+1) B (by omega) hV
theorem Kh{row:List Int}{nds:List Nd}{nm:List Int}{v v':PV}{fs:List Fr}:Vd ⟨row,nds,gn nm v fs,v'⟩:=by
 intro f fs' h
 cases fs with
 |nil=>simp[gn]at h
 | cons g gs=>
   simp only[gn,List.cons.injEq]at h;rw[<- h.1];simp
theorem Sim.step{ns W X:List Int}{B:Bd}{k:Nat}{tree:List PV}(h:Sim W B tree)(hN:NmI B)(hb:Bok B k)(hlo:xq B.frs)(hk:k<=50)(hW:W=(B.step ns k).row++X)(hX:Vd (B.step ns k)->Fw X)(hl:W.length<=90000):∃ tree',Sim W (B.step ns k) tree' /\ NmI (B.step ns k):=by
 have hnl:=hb.nodes;have hfr:=hb.frs;have hdp:=hb.dep
 have hlt:∀ f∈B.frs,f.i<B.nodes.length:=by
  revert hfr;generalize B.nodes.length=N;generalize B.frs=fs
  induction fs with
  |nil=>intro _ f hf;cases hf
  | cons g gs ih=>
    intro h f hf
    rcases List.mem_cons.mp hf with z|z
    . rw[z];exact h.1
    . exact ih h.2.2.2 f z
 have hlb:=fX ns B (PG.mix ns k)
 have hlt2:∀ f∈B.frs,f.i<(aP ns B (PG.mix ns k)).length:=fun f hf=>by have:=hlt f hf;omega
 by_cases hc:B.frs.isEmpty=false /\ PG.mix ns k%5=1
 . have es:B.step ns k=Bd.close { B with row:=B.row++lwh (PG.mix ns k/3) }:=by unfold Bd.step;rw[if_pos hc]
   rw[es]at hW ⊢
   obtain⟨f,fs,e⟩:∃ f fs,B.frs=f ::fs:=by
    cases e:B.frs with
    |nil=>rw[e]at hc;simp at hc
    |cons f fs=>exact⟨f,fs,rfl⟩
   have e':({ B with row:=B.row++lwh (PG.mix ns k/3) }:Bd).frs=f ::fs:=e
   have h1:inF fs=true->1<=f.i:=by
    intro z;rw[e]at hfr;exact hfr.2.2.1 (by intro y;rw[y]at z;simp[inF]at z)
   have hN':NmI { B with row:=B.row++lwh (PG.mix ns k/3) }:=⟨hN.dec,hN.prev,hN.last,hN.nxt,hN.opk⟩
   have hr:(Bd.close { B with row:=B.row++lwh (PG.mix ns k/3) }).row=B.row++lwh (PG.mix ns k/3)++[brk f.k]:=(kE e').1
   have hS:Sim W { B with row:=B.row++lwh (PG.mix ns k/3) } tree:=⟨h.ra.br (X:=[brk f.k]++X) (by rw[hW,hr];simp) (dF _),h.len,h.nam,h.opn,h.don⟩
   obtain⟨tree',ht⟩:=hS.close e' hW h1 hN.dec hN.prev
   exact⟨tree',ht,hN'.close e' h1 hlo⟩
 . by_cases hc2:B.frs.isEmpty=false \/ k=0
   . by_cases hc3:PG.mix ns k%5>2 \/ (k=0 /\ PG.mix ns k%9>0)
     . have es:B.step ns k=B.opn ns (PG.mix ns k):=by unfold Bd.step;rw[if_neg hc,if_pos hc2,if_pos hc3]
       rw[es]at hW ⊢
       obtain⟨t1,h1⟩:=h.beg ns (PG.mix ns k) (Y:=[if PG.mix ns k/5%2=0 then 91 else 123]++X) (by rw[hW];simp[Bd.opn]) hl (by omega);have h1l:=h1.len;simp only at h1l;obtain⟨t2,h2⟩:=Sim.open ns (PG.mix ns k) h1 hW (by rw[h1l];split at hlb<;>omega) (by omega) hlt2
       exact⟨t2,h2,hN.opn hlt⟩
     . have es:B.step ns k=B.leaf ns (PG.mix ns k):=by unfold Bd.step;rw[if_neg hc,if_pos hc2,if_neg hc3]
       rw[es]at hW hX ⊢
       obtain⟨t1,h1⟩:=h.beg ns (PG.mix ns k) (Y:=lfb (gw ns (PG.mix ns k))++X) (by rw[hW];simp[Bd.leaf]) hl (by omega);have h1l:=h1.len;simp only at h1l;obtain⟨t2,h2⟩:=Sim.leaf ns (PG.mix ns k) h1 hW (hX Kh) hl (by rw[h1l];split at hlb<;>omega) hlt2
       exact⟨t2,h2,hN.leaf hlt⟩
   . have es:B.step ns k=B:=by unfold Bd.step;rw[if_neg hc,if_neg hc2]
     rw[es]
     exact⟨tree,h,hN⟩
theorem CG{ns W:List Int}(hl:W.length<=90000):∀(j k:Nat) (B:Bd) (tree:List PV),Sim W B tree->NmI B->pJ ns B->Bok B k->k≠0->k+j<=50->W=jW ns (bld ns B k j)->∃ tree',Sim W (bld ns B k j) tree' /\ NmI (bld ns B k j)
 |0,k,B,tree,h,hN,_,_,_,_,_=>⟨tree,h,hN⟩
 | j+1,k,B,tree,h,hN,hI,hb,h0,hj,hW=>by
   have hW':W=jW ns (bld ns (B.step ns k) (k+1) j):=hW
   obtain⟨X,hX⟩:=vx ns j (k+1) (B.step ns k)
   obtain⟨t1,h1,hN1⟩:=h.step (ns:=ns) (X:=X) hN hb hI.lo (by omega) (by rw[hW',hX]) (fun hV=>by
    obtain⟨Y,hY,hF⟩:=later ns j (k+1) (B.step ns k) (by omega) hV
    have:X=Y:=List.append_cancel_left (hX.symm.trans hY)
    rw[this];exact hF) hl
   exact CG hl j (k+1) (B.step ns k) t1 h1 hN1 (hI.step hb (by omega) h0) (hb.step ns) (by omega) (by omega) hW'
theorem Cd{ns W:List Int}:∀(j:Nat) (B:Bd) (k:Nat) (tree:List PV) (Y:List Int),Sim W B tree->NmI B->pJ ns B->Bok B k->k+j<=60->B.frs.length=j->W=(cls B j).row++Y->∃ tree',Sim W (cls B j) tree' /\ NmI (cls B j) /\ (cls B j).frs=[]
 |0,B,k,tree,Y,h,hN,_,_,_,hj,_=>⟨tree,h,hN,List.length_eq_zero_iff.mp hj⟩
 | j+1,B,k,tree,Y,h,hN,hI,hb,hkj,hj,hW=>by
   obtain⟨f,fs,e⟩:∃ f fs,B.frs=f ::fs:=by
    cases e:B.frs with
    |nil=>rw[e]at hj;simp at hj
    |cons f fs=>exact⟨f,fs,rfl⟩
   have hne:B.frs≠[]:=by rw[e];simp
   have hfr:=hb.frs
   have h1:inF fs=true->1<=f.i:=by
    intro z;rw[e]at hfr;exact hfr.2.2.1 (by intro y;rw[y]at z;simp[inF]at z)
   have hb2:=hb.close [] (by simp);rw[show({ B with row:=B.row++[] }:Bd)=B by cases B;simp]at hb2;obtain⟨x,hx⟩:=vG j B.close
   have hW':W=(cls B.close j).row++Y:=hW
   obtain⟨t1,ht1⟩:=h.close (X:=x++Y) e (by rw[hW',hx,List.append_assoc]) h1 hN.dec hN.prev;exact Cd j B.close (k+1) t1 Y ht1 (hN.close e h1 hI.lo) (hI.close hb hne (by omega)) hb2 (by omega) (by rw[uC];omega) hW'
theorem Fi(W:List Int):Sim W bd0 [] /\ NmI bd0:=by
 refine⟨⟨RA.nil W,rfl,?_,?_,?_⟩,⟨List.Pairwise.nil,trivial,?_,?_,?_⟩⟩<;>simp[bd0]
theorem Dm(ns:List Int)(m:Nat)(h1:1<=m)(hm:m<=12):∃ tree,Sim (gW ns m).row (gW ns m) tree /\ NmI (gW ns m) /\ (gW ns m).frs=[] /\ (gW ns m).row.length<=800*m+3 /\ (gW ns m).nodes.length<=4*m:=by
 obtain⟨m,rfl⟩:∃ j,m=j+1:=⟨m - 1,by omega⟩
 have hok:=yt ns (m+1) 0 bd0 p7;have hd:=hok.dep;have hcok:=yk (bld ns bd0 0 (m+1)).frs.length _ _ hok;have hr:=hcok.row;have hn:=hcok.nodes;have hw:=gj (PG.mix ns 61)
 have eW:(gW ns (m+1)).row=jW ns (bld ns (bd0.step ns 0) 1 m):=rfl
 have hlen:(gW ns (m+1)).row.length<=800*(m+1)+3:=by
  unfold gW;simp only[List.length_append];omega
 generalize hWd:(gW ns (m+1)).row=W at *;obtain⟨hS0,hN0⟩:=Fi W;obtain⟨X,hX⟩:=vx ns m 1 (bd0.step ns 0)
 obtain⟨t1,hS1,hN1⟩:=hS0.step (ns:=ns) (k:=0) (X:=X) hN0 p7 trivial (by omega) (by rw[eW,hX]) (fun hV=>by
  obtain⟨Y,hY,hF⟩:=later ns m 1 (bd0.step ns 0) (by omega) hV
  have:X=Y:=List.append_cancel_left (hX.symm.trans hY)
  rw[this];exact hF) (by omega)
 have hI1:=pJ.first ns;obtain⟨t2,hS2,hN2⟩:=CG (ns:=ns) (by omega) m 1 (bd0.step ns 0) t1 hS1 hN1 hI1 (p7.step ns) (by omega) (by omega) eW;have hI2:=yl ns m 1 (bd0.step ns 0) hI1 (p7.step ns) (by omega) (by omega);obtain⟨t3,hS3,hN3,hf⟩:=Cd (ns:=ns) (bld ns bd0 0 (m+1)).frs.length (bld ns bd0 0 (m+1)) (0+(m+1)) t2 (lwh (PG.mix ns 61)) hS2 hN2 hI2 hok (by omega) rfl eW
 refine⟨t3,?_,?_,hf,hlen,Nat.le_trans hn (by omega)⟩
 . refine⟨?_,hS3.len,hS3.nam,hS3.opn,hS3.don⟩
   exact hS3.ra.br (X:=[]) (by rw[eW];simp[jW];rfl) (dF _)
 . exact⟨hN3.dec,hN3.prev,hN3.last,hN3.nxt,hN3.opk⟩
theorem A4{me:ag->OE}{ρ:ag}{ys:List PV}(h:∀(j:Nat) y,ys[j]?=some y->me (ρ++[some (.sh (.int j))])=.ok (.sh y)):dc me ρ (cT ys.length)=.ok ys:=by
 unfold cT
 have:=kb (me:=me) (ρ:=ρ) (g:=fun j:Nat=>PV.int j) (f:=fun j:Nat=>(ys[j]?).getD .non) (List.range ys.length) (fun j hj=>by
  have hj':=List.mem_range.mp hj
  have hq:ys[j]?=some ys[j]:=List.getElem?_eq_getElem hj'
  rw[h j _ hq,hq];rfl)
 rw[this]
 congr 1
 refine List.ext_getElem (by simp) fun j h1 h2=>?_
 have hq:ys[j]?=some ys[j]:=List.getElem?_eq_getElem h2
 simp[hq]
theorem F7(a b c e:PV):atP [a,b,c,e] 0=some a:=rfl
theorem E3(a b c e:PV):atP [a,b,c,e] 1=some b:=rfl
theorem E1(a b c e:PV):atP [a,b,c,e] 2=some c:=rfl
theorem FY(a b c e:PV):atP [a,b,c,e] 3=some e:=rfl
theorem F9{tree:List PV}{nds:List Nd}(hn:∀(j:Nat) d,nds[j]?=some d->d.s = "name" -> tree[j]?=some (.tup [.str "name",.int d.a,.int d.b,.int ((j:Int)+1)]) /\ ∃ e:Nd,tree[j+1]?=some (.tup [.str e.s,.int e.a,.int e.b,.int e.c]) /\ e.c=d.c)
  (hd:∀(j:Nat) d,nds[j]?=some d->d.s ≠ "name" -> tree[j]?=some (ndP d)) (j:Nat) (d:Nd) (h:nds[j]?=some d):
  eR [.lst tree,.int j]=.ok (.sh (ndP d)):=by
 by_cases hs:d.s = "name"
 . obtain⟨h1,e,h2,h3⟩:=hn j d h hs
   have a1:atP tree (j:Int)=some (.tup [.str "name",.int d.a,.int d.b,.int ((j:Int)+1)]):=by rw[kz,h1]
   have a2:atP tree ((j:Int)+1)=some (.tup [.str e.s,.int e.a,.int e.b,.int e.c]):=by
    rw[show((j:Int)+1)=((j+1:Nat):Int) by omega,kz,h2]
   simp -implicitDefEqProofs [kO,lh,nI,eR,gN,a1,a2,eT,F7,E3,E1,FY,gNe,eqS,aH,ndP,hs,h3]
 . have a1:atP tree (j:Int)=some (ndP d):=by rw[kz,hd j d h hs]
   unfold ndP at a1;simp -implicitDefEqProofs [kO,lh,nI,eR,gN,a1,eT,F7,E3,E1,FY,gNe,eqS,aH,ndP,hs,gz]
theorem xu(ns:List Int)(m:Nat)(h1:1<=m)(hm:m<=12):mU [.lst ((gW ns m).row.map .int)]=.ok (.fr ((gW ns m).nodes.map ndP)) /\ (gW ns m).row.length<=9700 /\ (gW ns m).nodes.length<=48:=by
 obtain⟨tree,hS,hN,hf,hl,hnl⟩:=Dm ns m h1 hm;obtain⟨C,hI,hCf,hB,_⟩:=DX ns m h1 (by omega);have hw:=dF (PG.mix ns 61)
 have hflt:PG.flt (gW ns m).row=none:=by
  have hjn:=hI.jn;unfold Jn at hjn;rw[hCf]at hjn;have:=(hjn.br (by decide) hw).flt;rw[hB];exact this
 generalize gW ns m=B at *
 refine⟨?_,by omega,by omega⟩
 have ra:=hS.ra;rw[hf]at ra;obtain⟨x,y,hwh⟩:=RA.done ra (by omega);have htl:=hS.len
 have hdon:∀(j:Nat) d,B.nodes[j]?=some d->d.s ≠ "name" -> tree[j]?=some (ndP d):=fun j d h hs=>hS.don j d h hs (by rw[hf];simp)
 have hmem:=F9 (tree:=tree) (nds:=B.nodes) (fun j d h hs=>by
  refine⟨hS.nam j d h hs,?_⟩
  obtain⟨e,m1,m2,m3⟩:=hN.nxt j d h hs
  rcases m3 with⟨f,hff,_⟩|hc
  . rw[hf]at hff;cases hff
  . exact⟨e,hdon _ e m1 m2,hc⟩) hdon
 refine Dg B.row tree B.row.length x y (B.nodes.map ndP) hflt (by omega) (by omega) hwh ?_ (by simp[htl])
 have hlen:tree.length=(B.nodes.map ndP).length:=by rw[List.length_map,htl]
 rw[hlen]
 refine A4 fun j z hz=>?_
 rw[List.getElem?_map]at hz
 cases q:B.nodes[j]? with
 |none=>rw[q]at hz;simp at hz
 | some d=>
   rw[q]at hz;simp only[Option.map_some,Option.some.injEq]at hz;rw[<- hz];have:=hmem j d q;simp -implicitDefEqProofs [uc,this]
theorem Kp(d:Nd):qf (ndP d) 64=true /\ fg (ndP d) (ndP d)=true:=by
 constructor
 . simp[ndP,qf,tK]
 . simp[ndP,fg,qe]
theorem GL(ns:List Int)(V:PV)(val:PV)(row:List Int)(nds:List Nd)(hV:V=.tup [.lst (row.map .int),.lst (nds.map ndP),val])(x2 x5:Option Sl)(j:Nat)(d:Nd)(h:nds[j]?=some d):∃ y5,
  vq [some (.sh (.lst (ns.map .int))),some (.sh V),x2,some (.ow (nds.map ndP)),some (.sh (.int j)),x5]=.nx [some (.sh (.lst (ns.map .int))),some (.sh V),x2,some (.ow (nds.map ndP)),some (.sh (.int j)),y5]:=by
 have ha:atP (nds.map ndP) (j:Int)=some (ndP d):=by rw[kz,List.getElem?_map,h];rfl
 have h1:mOp gN (mOp eT (ao 1) (mC (.int 1))) (ao 4) [some (.sh (.lst (ns.map .int))),some (.sh V),x2,some (.ow (nds.map ndP)),some (.sh (.int j)),some (.sh (ndP d))]=.ok (.sh (ndP d)):=by
  rw[hV]
  have:atP [PV.lst (row.map .int),.lst (nds.map ndP),val] 1=some (.lst (nds.map ndP)):=rfl
  simp -implicitDefEqProofs [eT,gN,this,ha]
 have h2:aB (mOp zX (ao 5) (mOp gN (mOp eT (ao 1) (mC (.int 1))) (ao 4))) [some (.sh (.lst (ns.map .int))),some (.sh V),x2,some (.ow (nds.map ndP)),some (.sh (.int j)),some (.sh (ndP d))]=.ok false:=by
  obtain⟨o1,o2⟩:=Kp d;revert h1;generalize mOp gN (mOp eT (ao 1) (mC (.int 1))) (ao 4)=E;intro h1;simp -implicitDefEqProofs [aB,h1,zX,o1,o2]
 refine⟨some (.sh (ndP d)),?_⟩
 unfold vq;rw[bt (ρ':=[some (.sh (.lst (ns.map .int))),some (.sh V),x2,some (.ow (nds.map ndP)),some (.sh (.int j)),some (.sh (ndP d))]) (by simp -implicitDefEqProofs [bq,gN,ha])]
 refine(sk ?_).trans ((Nb ?_).trans (CA _))
 . simp -implicitDefEqProofs [mL,pE,aB,mIs,isP,ndP,eT,F7]
 . revert h2;generalize aB (mOp zX (ao 5) (mOp gN (mOp eT (ao 1) (mC (.int 1))) (ao 4)))=E;intro h2
   unfold ndP at h2 ⊢
   simp -implicitDefEqProofs [mL,pE,eT,E3,E1,FY,jr,h2]
theorem Aa(ns:List Int)(V:PV)(val:PV)(row:List Int)(nds:List Nd)(hV:V=.tup [.lst (row.map .int),.lst (nds.map ndP),val])(x2:Option Sl):∀(k i:Nat) (x4 x5:Option Sl),i+k<=nds.length->∃ y4 y5,
  jG 4 vq ((List.range' i k).map fun j:Nat=>.int j) [some (.sh (.lst (ns.map .int))),some (.sh V),x2,some (.ow (nds.map ndP)),x4,x5]=.nx [some (.sh (.lst (ns.map .int))),some (.sh V),x2,some (.ow (nds.map ndP)),y4,y5]
 |0,i,x4,x5,_=>⟨x4,x5,rfl⟩
 | k+1,i,x4,x5,hk=>by
   have hlt:i<nds.length:=by omega
   obtain⟨y5,ht⟩:=GL ns V val row nds hV x2 x5 i nds[i] (List.getElem?_eq_getElem hlt);obtain⟨z4,z5,hl⟩:=Aa ns V val row nds hV x2 k (i+1) (some (.sh (.int i))) y5 (by omega)
   refine⟨z4,z5,?_⟩
   rw[List.range'_succ,List.map_cons,j4];simp only[List.set_cons_succ,List.set_cons_zero,ht,iA];exact hl
theorem FP(ns:List Int)(_:ns.length<=63):xN [.lst (ns.map .int)]=.ok (.sh (.bl true)):=by
 obtain⟨m,hm⟩:∃ m:Nat,(m:Int)=1+PG.mix ns 62%11:=⟨(1+PG.mix ns 62%11).toNat,by omega⟩
 have hm1:1<=m:=by omega
 have hm2:m<=11:=by omega
 have hb:=HA ns m (by omega);obtain⟨hn,hrl,hnl⟩:=xu ns m hm1 (by omega);generalize (gW ns m).row=row at *;generalize (gW ns m).nodes=nds at *;generalize (gW ns m).val=val at *;generalize hV:PV.tup [.lst (row.map .int),.lst (nds.map ndP),val]=V at hb
 have i0:∀ a b c:PV,atP [a,b,c] 0=some a:=fun _ _ _=>rfl
 have i1:∀ a b c:PV,atP [a,b,c] 1=some b:=fun _ _ _=>rfl
 unfold xN fnP;rw[if_pos (show List.length [PV.lst (ns.map .int)]=1 from rfl),show lS 6 [PV.lst (ns.map .int)]=[some (.sh (.lst (ns.map .int))),none,none,none,none,none] from rfl];unfold Jt
 rw[bt (ρ':=[some (.sh (.lst (ns.map .int))),some (.sh V),none,none,none,none]) (by
  rw[hm]at hb
  simp[bq,eS,hb])]
 unfold CK
 rw[bt (ρ':=[some (.sh (.lst (ns.map .int))),some (.sh V),some (.ow (row.map .int)),none,none,none]) (by
  rw[<- hV];simp -implicitDefEqProofs [bq,eT,i0,tV])]
 unfold CN
 rw[bt (ρ':=[some (.sh (.lst (ns.map .int))),some (.sh V),some (.sh (.lst (row.map .int))),some (.ow (nds.map ndP)),none,none]) (by
  simp -implicitDefEqProofs [iz,lD,bq,hn])]
 unfold CP
 rw[sk (by
  rw[<- hV]
  simp -implicitDefEqProofs [mL,pE,aB,mIs,isP,eT,i0,i1,zX,qf,Bc,fg,B4])]
 unfold CH;obtain⟨y4,y5,hl⟩:=Aa ns V val row nds hV.symm (some (.sh (.lst (row.map .int)))) nds.length 0 none none (by omega)
 rw[bt (ρ':=[some (.sh (.lst (ns.map .int))),some (.sh V),some (.sh (.lst (row.map .int))),some (.ow (nds.map ndP)),y4,y5]) (by
  have h1:mUn mM (ao 3) [some (.sh (.lst (ns.map .int))),some (.sh V),some (.sh (.lst (row.map .int))),some (.ow (nds.map ndP)),none,none]=.ok (.sh (.int nds.length)):=by simp[mM]
  rw[Cm h1 (by omega),show cT (Int.toNat (nds.length:Int))=(List.range' 0 nds.length).map fun k:Nat=>.int k by simp[cT,List.range_eq_range']]
  exact hl)]
 simp[CM]
end L2.plainglass_k11_nodes_told
namespace L2.plainglass_k11_nodes_told
open PySem PySem.Spec PyProof.Rows L2.E L2.P PG
def top(i:Nat):Stmt:=PySem.Challenge.pw_plainglass_k11_nodes_told.main.body.getD i (.Pass ⟨0,0,0,0⟩)
abbrev yZ:Stmt:=top 6
abbrev vW:List Str:=["byte"]
theorem FU:aT ["byte"] vW (aA yZ):=eD
abbrev jJ:Stmt:=top 7
abbrev jh:List Str:=["byte"]
theorem sE:aT ["byte"] jh (aA jJ):=eD
abbrev kd:Stmt:=top 8
abbrev jS:List Str:=["byte"]
theorem tQ:aT ["byte"] jS (aA kd):=eD
abbrev sT:Stmt:=top 30
abbrev qd:List Str:=["byte"]
theorem AE:aT ["byte"] qd (aA sT):=eD
abbrev qJ:Stmt:=top 31
abbrev ot:List Str:=["byte"]
theorem y0:aT ["byte"] ot (aA qJ):=eD
abbrev qP:Stmt:=top 32
abbrev pk:List Str:=["byte"]
theorem yr:aT ["byte"] pk (aA qP):=eD
abbrev qL:Stmt:=top 33
abbrev oI:List Str:=["byte"]
theorem zi:aT ["byte"] oI (aA qL):=eD
abbrev mB:Stmt:=top 34
abbrev kP:List Str:=["byte"]
theorem vc:aT ["byte"] kP (aA mB):=eD
abbrev wb:Stmt:=top 40
abbrev uo:List Str:=["item","byte"]
theorem Ea:aT ["item","byte"] uo (aA wb):=eD
abbrev lT:Stmt:=top 41
abbrev lb:List Str:=["byte"]
theorem pC:aT ["byte","rest"] lb (aA lT):=eD
abbrev nG:Stmt:=top 42
abbrev lW:List Str:=["byte"]
theorem vP:aT ["byte"] lW (aA nG):=eD
abbrev jf:Stmt:=top 43
abbrev iL:List Str:=["item","byte"]
theorem rf:aT ["item","byte"] iL (aA jf):=eD
abbrev j0:Stmt:=top 44
abbrev jK:List Str:=["item","byte"]
theorem m5:aT ["item","byte","worth"] jK (aA j0):=eD
abbrev jb:Stmt:=top 45
abbrev iN:List Str:=["byte"]
theorem ly:aT ["byte","spans"] iN (aA jb):=eD
abbrev jg:Stmt:=top 46
abbrev iO:List Str:=["byte"]
theorem rn:aT ["byte"] iO (aA jg):=eD
abbrev kU:Stmt:=top 47
abbrev jY:List Str:=["worth"]
theorem n5:aT ["worth","second"] jY (aA kU):=eD
abbrev oG:Stmt:=top 48
abbrev nh:List Str:=["item","byte"]
theorem se:aT ["item","byte","worth"] nh (aA oG):=eD
abbrev hJ:Stmt:=top 49
abbrev gP:List Str:=["item","byte"]
theorem pH:aT ["item","byte"] gP (aA hJ):=eD
abbrev jd:Stmt:=top 50
abbrev iG:List Str:=["byte"]
theorem lr:aT ["byte","items"] iG (aA jd):=eD
abbrev gO:Stmt:=top 51
abbrev gp:List Str:=["byte"]
theorem oZ:aT ["byte"] gp (aA gO):=eD
abbrev nN:Stmt:=top 52
abbrev lX:List Str:=[]
theorem xf:aT [] lX (aA nN):=eD
abbrev yX:Stmt:=top 54
abbrev wa:List Str:=["row"]
theorem wm:aT ["row","walk","at"] wa (aA yX):=eD
abbrev mq:Stmt:=top 55
abbrev kQ:List Str:=["row"]
theorem pA:aT ["row","at"] kQ (aA mq):=eD
abbrev zA:Stmt:=top 58
abbrev xj:List Str:=["row"]
theorem iP:aT ["row","tree","unended","at","byte","i"] xj (aA zA):=eD
abbrev BO:Stmt:=top 59
abbrev yJ:List Str:=["row","at","i"]
theorem y7:aT ["row","at","i","kind","end"] yJ (aA BO):=eD
abbrev qD:Stmt:=top 60
abbrev oj:List Str:=["row","at"]
theorem o6:aT ["row","at","end"] oj (aA qD):=eD
abbrev sL:Stmt:=top 61
abbrev qg:List Str:=["row","at"]
theorem pZ:aT ["row","at","end"] qg (aA sL):=eD
abbrev uD:Stmt:=top 62
abbrev sI:List Str:=["row","end"]
theorem wV:aT ["row","end"] sI (aA uD):=eD
abbrev m8:Stmt:=top 63
abbrev mz:List Str:=["tree","i"]
theorem pS:aT ["tree","i","node"] mz (aA m8):=eD
abbrev si:Stmt:=top 65
abbrev qK:List Str:=["_law_script","_law_k"]
theorem AF:aT ["_law_script","_law_k"] qK (aA si):=eD
abbrev uF:Stmt:=top 66
abbrev sq:List Str:=["_law_script","_law_k"]
theorem su:aT ["_law_script","_law_k","_law_number_here"] sq (aA uF):=eD
abbrev qA:Stmt:=top 67
abbrev oU:List Str:=["_law_found"]
theorem zm:aT ["_law_found"] oU (aA qA):=eD
abbrev ql:Stmt:=top 69
abbrev oM:List Str:=["_law_number_here"]
theorem oO:aT ["_law_number_here","_law_kind","_law_rest"] oM (aA ql):=eD
abbrev n9:Stmt:=top 70
abbrev nJ:List Str:=["_law_script","_law_k"]
theorem ki:aT ["_law_script","_law_k","_law_number_here","_law_size_here"] nJ (aA n9):=eD
abbrev pY:Stmt:=top 71
abbrev pf:List Str:=["_law_point_here"]
theorem iy:aT ["_law_point_here","_law_many_here","_law_found","_law_k"] pf (aA pY):=eD
abbrev ue:Stmt:=top 72
abbrev sj:List Str:=["_law_number_here","_law_big"]
theorem jk:aT ["_law_number_here","_law_big","_law_found","_law_k","_law_worth"] sj (aA ue):=eD
abbrev sP:Stmt:=top 73
abbrev p9:List Str:=["_law_point_here","_law_number_here"]
theorem mW:aT ["_law_point_here","_law_number_here","_law_short","_law_way","_law_rest"] p9 (aA sP):=eD
abbrev sy:Stmt:=top 74
abbrev pU:List Str:=["_law_points_here","_law_number_here"]
theorem jm:aT ["_law_points_here","_law_number_here","_law_found","_law_at","_law_point_here"] pU (aA sy):=eD
abbrev om:Stmt:=top 75
abbrev nr:List Str:=["_law_number_here"]
theorem bJ:aT ["_law_number_here","_law_below","_law_figures_here","_law_row","_law_worth","_law_figure","_law_power","_law_more","_law_down"] nr (aA om):=eD
abbrev pT:Stmt:=top 76
abbrev oP:List Str:=["_law_worth","_law_power"]
theorem o5:aT ["_law_worth","_law_power"] oP (aA pT):=eD
abbrev qb:Stmt:=top 77
abbrev og:List Str:=["_law_number_here"]
theorem yz:aT ["_law_number_here"] og (aA qb):=eD
abbrev jI:Stmt:=top 78
abbrev jc:List Str:=["_law_script","_law_number_here"]
theorem gm:aT ["_law_script","_law_number_here","_law_kind","_law_points_here","_law_found"] jc (aA jI):=eD
abbrev sM:Stmt:=top 79
abbrev qr:List Str:=["_law_script","_law_number_here"]
theorem As:aT ["_law_script","_law_number_here"] qr (aA sM):=eD
abbrev pR:Stmt:=top 80
abbrev oA:List Str:=["_law_row","_law_nodes_here","_law_frames"]
theorem pd:aT ["_law_row","_law_nodes_here","_law_frames","_law_frame","_law_value_here"] oA (aA pR):=eD
abbrev pM:Stmt:=top 81
abbrev ox:List Str:=["_law_script","_law_row","_law_nodes_here","_law_frames","_law_number_here"]
theorem jM:aT ["_law_script","_law_row","_law_nodes_here","_law_frames","_law_number_here","_law_name_here","_law_points_here","_law_at"] ox (aA pM):=eD
abbrev p5:Stmt:=top 82
abbrev oh:List Str:=["_law_script","_law_many_here"]
theorem cz:aT ["_law_script","_law_many_here","_law_row","_law_nodes_here","_law_frames","_law_value_here","_law_k","_law_number_here","_law_name_here","_law_at","_law_kind","_law_found"] oh (aA p5):=eD
abbrev zJ:Stmt:=top 83
abbrev B5:List Str:=["_law_script"]
theorem uf:aT ["_law_script","_law_built_here","_law_handed","_law_found","_law_k","_law_node"] B5 (aA zJ):=eD
abbrev eG:Stmt:=inClass (top 39) 0
abbrev j5:List Str:=["self"]
theorem uG:aT ["self"] j5 (aA eG):=eD
abbrev gX:Stmt:=inClass (top 39) 1
abbrev o3:List Str:=["self","row"]
theorem oF:aT ["self","row","at","byte"] o3 (aA gX):=eD
abbrev eY:Stmt:=inClass (top 39) 2
abbrev lj:List Str:=["self","byte"]
theorem kW:aT ["self","byte","item","items"] lj (aA eY):=eD
abbrev eI:Stmt:=inClass (top 39) 3
abbrev j9:List Str:=["self"]
theorem uH:aT ["self"] j9 (aA eI):=eD
abbrev eJ:Stmt:=inClass (top 39) 5
abbrev jZ:List Str:=["self"]
theorem uz:aT ["self"] jZ (aA eJ):=eD
set_option genInjectivity false in
set_option genSizeOf false in
structure Adr where
 jy:Addr
 d_tails:FuncData
 cV:Addr
 d_second_of_three:FuncData
 dw:Addr
 d_second_of_four:FuncData
 fH:Addr
 d_is_white:FuncData
 fE:Addr
 d_is_figure:FuncData
 fY:Addr
 d_hex_worth:FuncData
 fu:Addr
 d_word_rest:FuncData
 bS:Addr
 d_short_escape:FuncData
 kJ:Addr
 d_behind:FuncData
 bQ:Addr
 d_behind_value:FuncData
 dS:Addr
 d_behind_lead:FuncData
 aZ:Addr
 d_behind_in_number:FuncData
 bN:Addr
 d_behind_in_text:FuncData
 b4:Addr
 d_behind_character:FuncData
 cK:Addr
 d_behind_backslash:FuncData
 dJ:Addr
 d_behind_code_d:FuncData
 dD:Addr
 d_behind_hex:FuncData
 bb:Addr
 d_behind_in_brackets:FuncData
 cg:Addr
 d_behind_row_begin:FuncData
 b6:Addr
 d_behind_fields_begin:FuncData
 eP:Addr
 d_member_rest:FuncData
 pj:Addr
 d_fault:FuncData
 dU:Addr
 d_refuse_fault:FuncData
 mU:Addr
 d_nodes:FuncData
 je:Addr
 d_leaf:FuncData
 ig:Addr
 d_plain_end:FuncData
 i7:Addr
 d_text_end:FuncData
 fm:Addr
 d_is_name:FuncData
 eR:Addr
 d_with_member:FuncData
 i8:Addr
 d_law_cell:FuncData
 fk:Addr
 d_law_mix:FuncData
 fz:Addr
 d_law_whole:FuncData
 dI:Addr
 d_law_point:FuncData
 eM:Addr
 d_law_points:FuncData
 eQ:Addr
 d_law_eight:FuncData
 il:Addr
 d_law_hex:FuncData
 i6:Addr
 d_law_sign:FuncData
 gd:Addr
 d_law_text:FuncData
 gg:Addr
 d_law_number:FuncData
 fF:Addr
 d_law_plain:FuncData
 cF:Addr
 d_law_white:FuncData
 cA:Addr
 d_law_plain_value:FuncData
 ij:Addr
 d_law_name:FuncData
 cW:Addr
 d_law_close:FuncData
 fW:Addr
 d_law_begin:FuncData
 ic:Addr
 d_law_built:FuncData
 xN:Addr
 d_law:FuncData
 dj:Addr
 d_Walk___init__:FuncData
 fZ:Addr
 d_Walk_take:FuncData
 dW:Addr
 d_Walk_goes_on:FuncData
 cL:Addr
 d_Walk_brackets:FuncData
 dk:Addr
 d_Walk_is_whole:FuncData
 C_Walk:Addr
 v_TAIL:Addr
 v_BLANK:Value
 v_QUOTE:Value
 v_PLUS:Value
 v_COMMA:Value
 v_MINUS:Value
 v_POINT:Value
 v_NOUGHT:Value
 v_NINE:Value
 v_COLON:Value
 v_BIG_E:Value
 v_ROW_BEGIN:Value
 v_BACKSLASH:Value
 v_ROW_END:Value
 v_SMALL_E:Value
 v_SMALL_U:Value
 v_FIELDS_BEGIN:Value
 v_FIELDS_END:Value
 v_WHITE:Addr
 v_WORDS:Addr
 v_SHORT_ESCAPES:Addr
 v_MOST_BRACKETS:Value
 v_LOOSE:Addr
 v_UNENDED:Addr
 v_KINDS:Addr
structure Txt(K:PySem.W.Frag)(mg:Str->Option Value)(t:Adr):Prop where
 e_tails:Ent K mg "tails" yZ t.jy t.d_tails vW
 e_second_of_three:Ent K mg "second_of_three" jJ t.cV t.d_second_of_three jh
 e_second_of_four:Ent K mg "second_of_four" kd t.dw t.d_second_of_four jS
 cj:Ent K mg "is_white" sT t.fH t.d_is_white qd
 gc:Ent K mg "is_figure" qJ t.fE t.d_is_figure ot
 jl:Ent K mg "hex_worth" qP t.fY t.d_hex_worth pk
 e_word_rest:Ent K mg "word_rest" qL t.fu t.d_word_rest oI
 jQ:Ent K mg "short_escape" mB t.bS t.d_short_escape kP
 tD:Ent K mg "behind" wb t.kJ t.d_behind uo
 fT:Ent K mg "behind_value" lT t.bQ t.d_behind_value lb
 gK:Ent K mg "behind_lead" nG t.dS t.d_behind_lead lW
 e_behind_in_number:Ent K mg "behind_in_number" jf t.aZ t.d_behind_in_number iL
 e_behind_in_text:Ent K mg "behind_in_text" j0 t.bN t.d_behind_in_text jK
 gC:Ent K mg "behind_character" jb t.b4 t.d_behind_character iN
 gv:Ent K mg "behind_backslash" jg t.cK t.d_behind_backslash iO
 i3:Ent K mg "behind_code_d" kU t.dJ t.d_behind_code_d jY
 e_behind_hex:Ent K mg "behind_hex" oG t.dD t.d_behind_hex nh
 e_behind_in_brackets:Ent K mg "behind_in_brackets" hJ t.bb t.d_behind_in_brackets gP
 gA:Ent K mg "behind_row_begin" jd t.cg t.d_behind_row_begin iG
 fb:Ent K mg "behind_fields_begin" gO t.b6 t.d_behind_fields_begin gp
 dC:Ent K mg "member_rest" nN t.eP t.d_member_rest lX
 vy:Ent K mg "fault" yX t.pj t.d_fault wa
 e_refuse_fault:Ent K mg "refuse_fault" mq t.dU t.d_refuse_fault kQ
 e_nodes:Ent K mg "nodes" zA t.mU t.d_nodes xj
 e_leaf:Ent K mg "leaf" BO t.je t.d_leaf yJ
 e_plain_end:Ent K mg "plain_end" qD t.ig t.d_plain_end oj
 e_text_end:Ent K mg "text_end" sL t.i7 t.d_text_end qg
 e_is_name:Ent K mg "is_name" uD t.fm t.d_is_name sI
 e_with_member:Ent K mg "with_member" m8 t.eR t.d_with_member mz
 oY:Ent K mg "_law_cell" si t.i8 t.d_law_cell qK
 eS:Ent K mg "_law_mix" uF t.fk t.d_law_mix sq
 jr:Ent K mg "_law_whole" qA t.fz t.d_law_whole oU
 m7:Ent K mg "_law_point" ql t.dI t.d_law_point oM
 ik:Ent K mg "_law_points" n9 t.eM t.d_law_points nJ
 mQ:Ent K mg "_law_eight" pY t.eQ t.d_law_eight pf
 ka:Ent K mg "_law_hex" ue t.il t.d_law_hex sj
 oo:Ent K mg "_law_sign" sP t.i6 t.d_law_sign p9
 j7:Ent K mg "_law_text" sy t.gd t.d_law_text pU
 lC:Ent K mg "_law_number" om t.gg t.d_law_number nr
 e_law_plain:Ent K mg "_law_plain" pT t.fF t.d_law_plain oP
 eC:Ent K mg "_law_white" qb t.cF t.d_law_white og
 e_law_plain_value:Ent K mg "_law_plain_value" jI t.cA t.d_law_plain_value jc
 oX:Ent K mg "_law_name" sM t.ij t.d_law_name qr
 e_law_close:Ent K mg "_law_close" pR t.cW t.d_law_close oA
 e_law_begin:Ent K mg "_law_begin" pM t.fW t.d_law_begin ox
 e_law_built:Ent K mg "_law_built" p5 t.ic t.d_law_built oh
 FP:Ent K mg "law" zJ t.xN t.d_law B5
 F_Walk___init__:Fun K "__init__" "Walk.__init__" eG t.dj t.d_Walk___init__
 b_Walk___init__:Binds K t.d_Walk___init__ j5 []
 F_Walk_take:Fun K "take" "Walk.take" gX t.fZ t.d_Walk_take
 h_Walk_take:Meth K t.C_Walk "take" t.fZ
 b_Walk_take:Binds K t.d_Walk_take o3 []
 F_Walk_goes_on:Fun K "goes_on" "Walk.goes_on" eY t.dW t.d_Walk_goes_on
 h_Walk_goes_on:Meth K t.C_Walk "goes_on" t.dW
 b_Walk_goes_on:Binds K t.d_Walk_goes_on lj []
 F_Walk_brackets:Fun K "brackets" "Walk.brackets" eI t.cL t.d_Walk_brackets
 h_Walk_brackets:Meth K t.C_Walk "brackets" t.cL
 b_Walk_brackets:Binds K t.d_Walk_brackets j9 []
 F_Walk_is_whole:Fun K "is_whole" "Walk.is_whole" eJ t.dk t.d_Walk_is_whole
 h_Walk_is_whole:Meth K t.C_Walk "is_whole" t.dk
 b_Walk_is_whole:Binds K t.d_Walk_is_whole jZ []
 n_isinstance:mg "isinstance" = none
 n_tuple:mg "tuple" = none
 n_len:mg "len" = none
 n_range:mg "range" = none
 n_int:mg "int" = none
 n_bool:mg "bool" = none
 n_str:mg "str" = none
 n_ord:mg "ord" = none
 n_list:mg "list" = none
 n_enumerate:mg "enumerate" = none
 n_all:mg "all" = none
 m_Walk:mg "Walk" = some (.ref t.C_Walk)
 c_Walk:Cls K t.C_Walk
 k_Walk:Mk K t.C_Walk t.dj
 na_Walk_coming:ng K t.C_Walk "coming"
 m_TAIL:mg "TAIL" = some (.ref t.v_TAIL)
 r_TAIL:RelV (.ref t.v_TAIL) (.ref t.v_TAIL)
 q_TAIL:∀ H,SqT K H t.v_TAIL [.int 128,.int 191]
 m_BLANK:mg "BLANK" = some t.v_BLANK
 r_BLANK:RelV (.int 32) t.v_BLANK
 m_QUOTE:mg "QUOTE" = some t.v_QUOTE
 r_QUOTE:RelV (.int 34) t.v_QUOTE
 m_PLUS:mg "PLUS" = some t.v_PLUS
 r_PLUS:RelV (.int 43) t.v_PLUS
 m_COMMA:mg "COMMA" = some t.v_COMMA
 r_COMMA:RelV (.int 44) t.v_COMMA
 m_MINUS:mg "MINUS" = some t.v_MINUS
 r_MINUS:RelV (.int 45) t.v_MINUS
 m_POINT:mg "POINT" = some t.v_POINT
 r_POINT:RelV (.int 46) t.v_POINT
 m_NOUGHT:mg "NOUGHT" = some t.v_NOUGHT
 r_NOUGHT:RelV (.int 48) t.v_NOUGHT
 m_NINE:mg "NINE" = some t.v_NINE
 r_NINE:RelV (.int 57) t.v_NINE
 m_COLON:mg "COLON" = some t.v_COLON
 r_COLON:RelV (.int 58) t.v_COLON
 m_BIG_E:mg "BIG_E" = some t.v_BIG_E
 r_BIG_E:RelV (.int 69) t.v_BIG_E
 m_ROW_BEGIN:mg "ROW_BEGIN" = some t.v_ROW_BEGIN
 r_ROW_BEGIN:RelV (.int 91) t.v_ROW_BEGIN
 m_BACKSLASH:mg "BACKSLASH" = some t.v_BACKSLASH
 r_BACKSLASH:RelV (.int 92) t.v_BACKSLASH
 m_ROW_END:mg "ROW_END" = some t.v_ROW_END
 r_ROW_END:RelV (.int 93) t.v_ROW_END
 m_SMALL_E:mg "SMALL_E" = some t.v_SMALL_E
 r_SMALL_E:RelV (.int 101) t.v_SMALL_E
 m_SMALL_U:mg "SMALL_U" = some t.v_SMALL_U
 r_SMALL_U:RelV (.int 117) t.v_SMALL_U
 m_FIELDS_BEGIN:mg "FIELDS_BEGIN" = some t.v_FIELDS_BEGIN
 r_FIELDS_BEGIN:RelV (.int 123) t.v_FIELDS_BEGIN
 m_FIELDS_END:mg "FIELDS_END" = some t.v_FIELDS_END
 r_FIELDS_END:RelV (.int 125) t.v_FIELDS_END
 m_WHITE:mg "WHITE" = some (.ref t.v_WHITE)
 r_WHITE:RelV (.ref t.v_WHITE) (.ref t.v_WHITE)
 q_WHITE:∀ H,SqT K H t.v_WHITE [.int 9,.int 10,.int 13,.int 32]
 m_WORDS:mg "WORDS" = some (.ref t.v_WORDS)
 r_WORDS:RelV (.ref t.v_WORDS) (.ref t.v_WORDS)
 q_WORDS:DKP K t.v_WORDS [(110,.tup ([117,108,108].map .int)),(116,.tup ([114,117,101].map .int)),(102,.tup ([97,108,115,101].map .int))]
 m_SHORT_ESCAPES:mg "SHORT_ESCAPES" = some (.ref t.v_SHORT_ESCAPES)
 r_SHORT_ESCAPES:RelV (.ref t.v_SHORT_ESCAPES) (.ref t.v_SHORT_ESCAPES)
 q_SHORT_ESCAPES:DKP K t.v_SHORT_ESCAPES [(34,.int 34),(92,.int 92),(47,.int 47),(98,.int 8),(102,.int 12),(110,.int 10),(114,.int 13),(116,.int 9)]
 m_MOST_BRACKETS:mg "MOST_BRACKETS" = some t.v_MOST_BRACKETS
 r_MOST_BRACKETS:RelV (.int 64) t.v_MOST_BRACKETS
 m_LOOSE:mg "LOOSE" = some (.ref t.v_LOOSE)
 r_LOOSE:RelV (.ref t.v_LOOSE) (.ref t.v_LOOSE)
 q_LOOSE:∀ H,SqT K H t.v_LOOSE [.str "white",.str "figures",.str "fraction",.str "exponent",.str "sign"]
 m_UNENDED:mg "UNENDED" = some (.ref t.v_UNENDED)
 r_UNENDED:RelV (.ref t.v_UNENDED) (.ref t.v_UNENDED)
 q_UNENDED:∀ H,SqT K H t.v_UNENDED [.str "row",.str "more row",.str "fields",.str "more fields"]
 m_KINDS:mg "KINDS" = some (.ref t.v_KINDS)
 r_KINDS:RelV (.ref t.v_KINDS) (.ref t.v_KINDS)
 q_KINDS:DKP K t.v_KINDS [(34,.str "text"),(91,.str "row"),(102,.str "false"),(110,.str "null"),(116,.str "true"),(123,.str "fields")]
noncomputable def b8(t:Adr)(c:String):Option Addr:=if c = "Walk" then some t.C_Walk else none
theorem jo{K:PySem.W.Frag}{mg:Str->Option Value}{t:Adr}(T:Txt K mg t):∀ c C,b8 t c=some C->pG c=true->Cls K C /\ ng K C "coming":=by
 intro c C h1 h2;unfold b8 at h1;unfold pG at h2
 by_cases e:c = "Walk"
 . subst e;simp at h1;subst h1;exact⟨T.c_Walk,T.na_Walk_coming⟩
 rw[if_neg e]at h1;cases h1
section
variable{P:Program}{w:World}{K:PySem.W.Frag}{mg:Str->Option Value}{base:Heap}{t:Adr}
theorem zE(T:Txt K mg t):cx P w K mg base (CXE P w) 1 t.i8 t.d_law_cell qK (spP K (b8 t) i8):=
 fi T.oY.F AF fun _ _ _ _ _ _ hr=>⟨_,(aj (aX (bA (qv 0) (fun _=>rfl)) (au (az (qi bg (qv 0) (aD bV (qv 1) (kK T.n_len (qv 0)))))) aE)
   (au (az ai))),
  (aw (aY (cD ae) (aC (aq fL ae (aq bW ae (dM iI ae)))) aF)
    (aC ah))⟩
theorem mx(T:Txt K mg t):cx P w K mg base (CXE P w) 2 t.fk t.d_law_mix sq (spP K (b8 t) fk):=
 fi T.eS.F su fun _ _ _ _ _ _ hr=>⟨_,(aj (qz 2 su.nd (aD bV (aD b9 (qx (zE T) T.oY hr aN (aa (qv 0) (aa (qv 1) av))) (aD ur ai (aD b9 (qv 1) ai))) ai))
   (aj (qz 2 su.nd (aD bV (aD ur (qv 2) ai) ai))
   (au (az (aD bV (aD b9 (aD ur (aD bT (qv 2) ai) ai) (qv 2)) ai))))),
  (aw (aW (aq bW (aq cb (aO (af ae (af ae ax))) (aq uk ah (aq cb ae ah))) ah))
    (aw (aW (aq bW (aq uk ae ah) ah))
    (aC (aq bW (aq cb (aq uk (aq bU ae ah) ah) ae) ah))))⟩
theorem tM(T:Txt K mg t):cx P w K mg base (CXE P w) 1 t.cW t.d_law_close oA (spI K (b8 t) cW):=
 we T.e_law_close.F pd fun _ _ _ _ _ _ hr=>⟨_,(aj (qz 3 pd.nd (BQ PySem.F.plainAttrs_list PySem.F.slot_list_pop PySem.F.type_list_pop Bv (qv 2)))
   (aj (qap b7 (qv 0) (cH (by exact(bM bw (qi bg (qv 3) ai) aM)) ai ai))
   (aj (wu (kK T.n_len (qv 0)) (vO (qi bg (qv 1) (qi bg (qv 3) ai)) ai set_list))
   (aj (wu (kK T.n_len (qv 1)) (vO (qi bg (qv 1) (qi bg (qv 3) ai)) ai set_list))
   (aj (qz 4 pd.nd (ck (aa (qi bg (qv 3) ai) (aa (gM ku rfl T.n_tuple L2.E.boot_tuple (aa (qi bg (qv 3) ai) av)) av))))
   (aj (aX (bA (qv 2) (fun _=>rfl)) (aj (qap b7 (qi bg (qi bg (qv 2) (nW kg ai)) ai) (cH (by exact(bM bw (qi bg (qi bg (qv 2) (nW kg ai)) ai) aM)) (qv 4) (ck (aa (qi bg (qv 3) ai) (aa (qv 4) av)))))
   (au (aX (bM bw (qi bg (qi bg (qv 2) (nW kg ai)) ai) aM) (au (wu (kK T.n_len (qv 1)) (vO (qi bg (qv 1) (aD sJ (qi bg (qv 3) ai) ai)) ai set_list))) aE))) aE)
   (au (az (qv 4))))))))),
  (aw (oN (yY aR))
    (aw (eH aR (lH (gZ (ay (aq bu (gR (jU aR ah)) aL)) ah ah)))
    (aw (vE (jU aR (gR (jU aR ah))) ah (lH (kj aR)))
    (aw (vE (jU aR (gR (jU aR ah))) ah (lH (kj aR)))
    (aw (aW (cn (af (gR (jU aR ah)) (af (dM yD (gR (jU aR ah))) ax))))
    (aw (aY (iu aR) (aw (eH (jU (jU aR (n8 j1 ah)) ah) (lH (gZ (ay (aq bu (gR (jU (jU aR (n8 j1 ah)) ah)) aL)) ae (cn (af (gR (jU aR ah)) (af ae ax))))))
    (aY (ay (aq bu (gR (jU (jU aR (n8 j1 ah)) ah)) aL)) (vE (jU aR (aq sA (gR (jU aR ah)) ah)) ah (lH (kj aR))) aF)) aF)
    lP))))))⟩
theorem iB(T:Txt K mg t):cx P w K mg base (CXE P w) 1 t.cF t.d_law_white og (spP K (b8 t) cF):=
 fi T.eC.F yz fun _ _ _ _ _ _ hr=>⟨_,(aj (aX (bM CU (aD bV (qv 0) ai) ai) (au (az (aU av))) aE)
   (au (az (mX (M:=["_law_number_here"]) (ι:=[0]) (x:="_law_k") ⟨rfl,rfl,rfl,rfl,rfl,rfl,rfl,rfl,rfl,rfl,rfl,by decide +kernel⟩ rfl (jV rfl T.n_range (aa (aD b9 (aD bV (aD bT (qv 0) ai) ai) ai) av)) fun _ _ _ _=>(qi bg (aU (aa ai (aa ai (aa ai (aa ai av))))) (aD bV (aD bT (aD bT (qv 0) ai) (aD b9 ai (aD ur ai (qv 1)))) ai)))))),
  (aw (aY (ay (aq Cc (aq bW ae ah) ah)) (aC (aV ax)) aF)
    (aC (wN (by decide) (aq cb (aq bW (aq bU ae ah) ah) ah) (aq fL (aV (af ah (af ah (af ah (af ah ax))))) (aq bW (aq bU (aq bU ae ah) (aq cb ah (aq uk ah ae))) ah)))))⟩
theorem yA(T:Txt K mg t):cx P w K mg base (CXE P w) 1 t.dI t.d_law_point oM (spP K (b8 t) dI):=
 fi T.m7.F oO fun _ _ _ _ _ _ hr=>⟨_,(aj (qz 1 oO.nd (aD bV (qv 0) ai))
   (aj (qz 2 oO.nd (aD bT (qv 0) ai))
   (aj (aX (bM lz (qv 1) ai) (au (az (aD b9 ai (aD bV (qv 2) ai)))) aE)
   (aj (aX (bM lz (qv 1) ai) (au (az (qi bg (aU (aa ai (aa ai (aa ai (aa ai (aa ai (aa ai (aa ai (aa ai (aa ai (aa ai (aa ai av)))))))))))) (aD bV (qv 2) ai)))) aE)
   (aj (aX (bM bw (qv 1) ai) (au (az (aD b9 ai (aD bV (qv 2) ai)))) aE)
   (aj (aX (bM bw (qv 1) ai) (au (az (aD b9 ai (aD bV (qv 2) ai)))) aE)
   (aj (aX (bM bw (qv 1) ai) (au (az (aD b9 ai (aD bV (qv 2) ai)))) aE)
   (au (az (aD b9 ai (aD bV (qv 2) ai))))))))))),
  (aw (aW (aq bW ae ah))
    (aw (aW (aq bU ae ah))
    (aw (aY (ay (aq lu ae ah)) (aC (aq cb ah (aq bW ae ah))) aF)
    (aw (aY (ay (aq lu ae ah)) (aC (aq fL (aV (af ah (af ah (af ah (af ah (af ah (af ah (af ah (af ah (af ah (af ah (af ah ax)))))))))))) (aq bW ae ah))) aF)
    (aw (aY (ay (aq bu ae ah)) (aC (aq cb ah (aq bW ae ah))) aF)
    (aw (aY (ay (aq bu ae ah)) (aC (aq cb ah (aq bW ae ah))) aF)
    (aw (aY (ay (aq bu ae ah)) (aC (aq cb ah (aq bW ae ah))) aF)
    (aC (aq cb ah (aq bW ae ah))))))))))⟩
theorem rE(T:Txt K mg t):cx P w K mg base (CXE P w) 3 t.eM t.d_law_points nJ (spP K (b8 t) eM):=
 fi T.ik.F ki fun _ _ _ _ _ _ hr=>⟨_,(aj (qz 2 ki.nd (qx (mx T) T.eS hr aN (aa (qv 0) (aa (qv 1) av))))
   (aj (qz 3 ki.nd (aD bV (qv 2) ai))
   (aj (aX (bM bw (aD bV (aD bT (qv 2) ai) ai) ai) (au (qz 3 ki.nd (aD bV (aD bT (qv 2) ai) ai))) aE)
   (au (az (mX (M:=["_law_script","_law_k"]) (ι:=[0,1]) (x:="_law_j") ⟨rfl,rfl,rfl,rfl,rfl,rfl,rfl,rfl,rfl,rfl,rfl,by decide +kernel⟩ rfl (jV rfl T.n_range (aa (qv 3) av)) fun _ _ _ _=>(qx (yA T) T.m7 hr BU (aa (qx (mx T) T.eS hr BU (aa (qv 0) (aa (aD b9 (aD b9 (qv 1) ai) (qv 2)) av))) av)))))))),
  (aw (aW (aO (af ae (af ae ax))))
    (aw (aW (aq bW ae ah))
    (aw (aY (ay (aq bu (aq bW (aq bU ae ah) ah) ah)) (aW (aq bW (aq bU ae ah) ah)) aF)
    (aC (wN (by decide) ae (aO (af (aO (af ae (af (aq cb (aq cb ae ah) ae) ax))) ax)))))))⟩
theorem Af(T:Txt K mg t):cx P w K mg base (CXE P w) 4 t.ij t.d_law_name qr (spP K (b8 t) ij):=
 fi T.oX.F As fun _ _ _ _ _ _ hr=>⟨_,(aj (aX (bM bw (aD bV (qv 1) ai) ai) (au (az (aU (aa (aD b9 ai (aD bV (aD bT (qv 1) ai) ai)) av)))) aE)
   (au (az (qx (rE T) T.ik hr aN (aa (qv 0) (aa (aD b9 ai (aD bV (aD bT (qv 1) ai) ai)) av)))))),
  (aw (aY (ay (aq bu (aq bW ae ah) ah)) (aC (aV (af (aq cb ah (aq bW (aq bU ae ah) ah)) ax))) aF)
    (aC (aO (af ae (af (aq cb ah (aq bW (aq bU ae ah) ah)) ax)))))⟩
theorem zy(T:Txt K mg t):cx P w K mg base (CXE P w) 1 t.eQ t.d_law_eight pf (spP K (b8 t) eQ):=
 fi T.mQ.F iy fun _ _ _ _ _ _ hr=>⟨_,(aj (aX (bM lz (qv 0) ai) (au (az (aU (aa (qv 0) av)))) aE)
   (aj (qz 1 iy.nd (aD b9 (aD b9 ai (gM yd rfl T.n_int L2.E.boot_int (aa (i4 C6 (qv 0) ai (mI _)) av))) (gM yd rfl T.n_int L2.E.boot_int (aa (i4 C6 (qv 0) ai (mI _)) av))))
   (aj (qz 2 iy.nd (aU av))
   (aj (qw gi rfl (jV rfl T.n_range (aa (qv 1) av)) (lE (i:=3) iy.nd rfl (by first|exact Or.inl rfl|exact Or.inr rfl)) (aj (qz 2 iy.nd (aD gy (aU (aa (aD b9 ai (aD bV (qv 0) ai)) av)) (qv 2)))
   (au (qz 0 iy.nd (aD bT (qv 0) ai)))))
   (au (az (aD gy (aU (aa (aD b9 (qi bg (aU (aa ai (aa ai (aa ai av)))) (aD sJ (qv 1) ai)) (qv 0)) av)) (qv 2)))))))),
  (aw (aY (ay (aq lu ae ah)) (aC (aV (af ae ax))) aF)
    (aw (aW (aq cb (aq cb ah (dM Ci (aq Cr ae ah))) (dM Ci (aq Cr ae ah))))
    (aw (aW (aV ax))
    (aw (vF ae (aw (aW (aq ji (aV (af (aq cb ah (aq bW ae ah)) ax)) ae))
    (aW (aq bU ae ah))))
    (aC (aq ji (aV (af (aq cb (aq fL (aV (af ah (af ah (af ah ax)))) (aq sA ae ah)) ae) ax)) ae))))))⟩
theorem sG(T:Txt K mg t):cx P w K mg base (CXE P w) 1 t.il t.d_law_hex sj (spP K (b8 t) il):=
 fi T.ka.F jk fun _ _ _ _ _ _ hr=>⟨_,(aj (qz 2 jk.nd (aU av))
   (aj (qw gi rfl (jV rfl T.n_range (aa ai av)) (lE (i:=3) jk.nd rfl (by first|exact Or.inl rfl|exact Or.inr rfl)) (aj (qz 4 jk.nd (aD bV (qv 0) ai))
   (aj (aX (bM lz (qv 4) ai) (au (qz 2 jk.nd (aD gy (aU (aa (aD b9 ai (qv 4)) av)) (qv 2)))) (au (qz 2 jk.nd (aD gy (aU (aa (aD b9 (cH (by exact(bA (qv 1) (fun _=>rfl))) ai ai) (qv 4)) av)) (qv 2)))))
   (au (qz 0 jk.nd (aD bT (qv 0) ai))))))
   (au (az (aD gy (aU (aa ai (aa ai av))) (qv 2)))))),
  (aw (aW (aV ax))
    (aw (vF ah (aw (aW (aq bW ae ah))
    (aw (aY (ay (aq lu ae ah)) (aW (aq ji (aV (af (aq cb ah ae) ax)) ae)) (aW (aq ji (aV (af (aq cb (gZ (cD ae) ah ah) ae) ax)) ae)))
    (aW (aq bU ae ah)))))
    (aC (aq ji (aV (af ah (af ah ax))) ae))))⟩
theorem Ac(T:Txt K mg t):cx P w K mg base (CXE P w) 2 t.i6 t.d_law_sign p9 (spP K (b8 t) i6):=
 fi T.oo.F mW fun _ _ _ _ _ _ hr=>⟨_,(aj (qz 2 mW.nd (IP (kI ai ai (kI ai ai (kI ai ai (kI ai ai (kI ai ai (kI ai ai (kI ai ai (kI ai ai GS))))))))))
   (aj (qz 3 mW.nd (aD bV (qv 1) ai))
   (aj (aX (kC (kf (bM bw (qv 3) ai) (kn (Ke (JG hr) (qv 0) (qv 2))))) (au (az (aU (aa ai (aa (Ht (JG hr) (qv 2) (qv 0) (fun _ _=>rfl)) av))))) aE)
   (aj (aX (kC (kf (bM CU (qv 3) ai) (kf (bM C6 (qv 0) ai) (kf (bM vH (qv 0) ai) (kn (bM vH (qv 0) ai)))))) (au (az (qx (zy T) T.mQ hr aN (aa (qv 0) av)))) aE)
   (aj (aX (bM lz (qv 0) ai) (au (az (qx (sG T) T.ka hr aN (aa (qv 0) (aa (i4 bw (qv 3) ai (mI _)) av))))) aE)
   (aj (qz 4 mW.nd (aD sJ (qv 0) ai))
   (au (az (aD gy (qx (sG T) T.ka hr aN (aa (aD b9 ai (aD bT (qv 4) ai)) (aa (i4 bw (qv 3) ai (mI _)) av))) (qx (sG T) T.ka hr aN (aa (aD b9 ai (aD bV (qv 4) ai)) (aa (i4 bw (qv 3) ai (mI _)) av)))))))))))),
  (aw (qR (Lv (kvs:=[(34,34),(92,92),(47,47),(8,98),(12,102),(10,110),(13,114),(9,116)]) (by decide) (by decide)))
    (aw (aW (aq bW ae ah))
    (aw (aY (j8 (ay (aq bu ae ah)) (ay (Ii ae aR))) (aC (aV (af ah (af (Ib aR ae) ax)))) aF)
    (aw (aY (j8 (ay (aq Cc ae ah)) (j8 (ay (aq Cr ae ah)) (j8 (ay (aq wC ae ah)) (ay (aq wC ae ah))))) (aC (aO (af ae ax))) aF)
    (aw (aY (ay (aq lu ae ah)) (aC (aO (af ae (af (aq bu ae ah) ax)))) aF)
    (aw (aW (aq sA ae ah))
    (aC (aq ji (aO (af (aq cb ah (aq bU ae ah)) (af (aq bu ae ah) ax))) (aO (af (aq cb ah (aq bW ae ah)) (af (aq bu ae ah) ax)))))))))))⟩
theorem u5(T:Txt K mg t):cx P w K mg base (CXE P w) 3 t.gd t.d_law_text pU (spP K (b8 t) gd):=
 fi T.j7.F jm fun _ _ _ _ _ _ hr=>⟨_,(aj (qz 2 jm.nd (aU (aa ai av)))
   (aj (qz 3 jm.nd ai)
   (aj (qw gi rfl (oH (qv 0)) (lE (i:=4) jm.nd rfl (by first|exact Or.inl rfl|exact Or.inr rfl)) (aj (qz 2 jm.nd (aD gy (qv 2) (qx (Ac T) T.oo hr aN (aa (qv 4) (aa (aD b9 (aD bT (qv 1) (aD b9 ai (aD bV (qv 3) ai))) (qv 3)) av)))))
   (au (qz 3 jm.nd (aD b9 (qv 3) ai)))))
   (au (az (aD gy (qv 2) (aU (aa ai av)))))))),
  (aw (aW (aV (af ah ax)))
    (aw (aW ah)
    (aw (y8 ae (aw (aW (aq ji ae (aO (af ae (af (aq cb (aq bU ae (aq cb ah (aq bW ae ah))) ae) ax)))))
    (aW (aq cb ae ah))))
    (aC (aq ji ae (aV (af ah ax)))))))⟩
theorem yT(T:Txt K mg t):cx P w K mg base (CXE P w) 5 t.fW t.d_law_begin ox (spI K (b8 t) fW):=
 we T.e_law_begin.F jM fun _ _ _ _ _ _ hr=>⟨_,(aj (qex gu (qv 1) (qx (iB T) T.eC hr aN (aa (aD bT (qv 4) ai) av)))
   (aj (qz 5 jM.nd (ck av))
   (aj (aX (kC (kf (bA (qv 3) (fun _=>rfl)) (kn (bA (qi bg (qi bg (qv 3) (nW kg ai)) ai) (fun _=>rfl))))) (aj (qap b7 (qv 1) ai)
   (au (qex gu (qv 1) (qx (iB T) T.eC hr aN (aa (aD bT (qv 4) ai) av))))) aE)
   (aj (aX (kC (kf (bA (qv 3) (fun _=>rfl)) (kn (bM bw (qi bg (qi bg (qv 3) (nW kg ai)) ai) aM)))) (aj (qz 6 jM.nd (qx (Af T) T.oX hr aN (aa (qv 0) (aa (aD bT (qv 4) ai) av))))
   (aj (qz 5 jM.nd (gM ku rfl T.n_tuple L2.E.boot_tuple (aa (qv 6) av)))
   (aj (qz 7 jM.nd (kK T.n_len (qv 1)))
   (aj (qex gu (qv 1) (qx (u5 T) T.j7 hr aN (aa (qv 6) (aa (aD bT (qv 4) ai) av))))
   (aj (qap b7 (qv 2) (aU (aa aM (aa (qv 7) (aa (kK T.n_len (qv 1)) (aa ai av))))))
   (aj (qex gu (qv 1) (qx (iB T) T.eC hr aN (aa (aD bT (qv 4) ai) av)))
   (aj (qap b7 (qv 1) ai)
   (au (qex gu (qv 1) (qx (iB T) T.eC hr aN (aa (aD bT (qv 4) ai) av))))))))))) aE)
   (au (az (qv 5))))))),
  (aw (gk aR (aO (af (aq bU ae ah) ax)))
    (aw (aW (cn ax))
    (aw (aY (j8 (iu aR) (cD (gR (jU (jU aR (n8 j1 ah)) ah)))) (aw (eH aR (lH ah))
    (gk aR (aO (af (aq bU ae ah) ax)))) aF)
    (aw (aY (j8 (iu aR) (ay (aq bu (gR (jU (jU aR (n8 j1 ah)) ah)) aL))) (aw (aW (aO (af ae (af (aq bU ae ah) ax))))
    (aw (aW (dM yD ae))
    (aw (aW (kj aR))
    (aw (lK (i:=6) (gk aR (aO (af ae (af (aq bU ae ah) ax)))))
    (aw (eH aR (lH (aV (af aL (af ae (af (kj aR) (af ah ax)))))))
    (aw (gk aR (aO (af (aq bU ae ah) ax)))
    (aw (eH aR (lH ah))
    (gk aR (aO (af (aq bU ae ah) ax)))))))))) aF)
    lP))))⟩
theorem yK(T:Txt K mg t):cx P w K mg base (CXE P w) 1 t.fF t.d_law_plain oP (spP K (b8 t) fF):=
 fi T.e_law_plain.F o5 fun _ _ _ _ _ _ hr=>⟨_,(aj (aX (bM bw (qv 0) ai) (au (az (ck (aa ai (aa ai av))))) aE)
   (aj (lV gi (bM bw (aD bV (qv 0) ai) ai) (aj (qz 0 o5.nd (aD bT (qv 0) ai))
   (au (qz 1 o5.nd (aD b9 (qv 1) ai)))))
   (au (az (ck (aa (qv 0) (aa (qv 1) av))))))),
  (aw (aY (ay (aq bu ae ah)) (aC (cn (af ah (af ah ax)))) aF)
    (aw (lY (ay (aq bu (aq bW ae ah) ah)) (aw (aW (aq bU ae ah))
    (aW (aq cb ae ah))))
    (aC (cn (af ae (af ae ax))))))⟩
theorem xm(T:Txt K mg t):cx P w K mg base (CXE P w) 2 t.gg t.d_law_number nr (spP K (b8 t) gg):=
 fi T.lC.F bJ fun _ _ _ _ _ _ hr=>⟨_,(aj (qz 1 bJ.nd (i4 bw (aD bV (qv 0) ai) ai (mI _)))
   (aj (II (i:=2) bJ.nd rfl (by first|exact Or.inl rfl|exact Or.inr rfl) (M:=[]) (ι:=[]) (x:="_law_sign_here") ⟨rfl,rfl,rfl,rfl,rfl,rfl,rfl,rfl,rfl,rfl,rfl,by decide +kernel⟩ rfl (FJ (gM tm rfl T.n_str L2.E.boot_str (aa (aD bV (aD bT (qv 0) ai) ai) av))) fun _ _ _ _=>(gM D9 rfl T.n_int L2.E.boot_int (aa (qv 0) av)))
   (aj (qz 3 bJ.nd (cH (by exact(bA (qv 1) (fun _=>rfl))) (aU (aa ai av)) (aU av)))
   (aj (qz 3 bJ.nd (aD gy (qv 3) (mX (M:=[]) (ι:=[]) (x:="_law_figure") ⟨rfl,rfl,rfl,rfl,rfl,rfl,rfl,rfl,rfl,rfl,rfl,by decide +kernel⟩ rfl (oH (qv 2)) fun _ _ _ _=>(aD b9 ai (qv 0)))))
   (aj (qz 4 bJ.nd ai)
   (aj (qw gi rfl (oH (qv 2)) (lE (i:=5) bJ.nd rfl (by first|exact Or.inl rfl|exact Or.inr rfl)) (au (qz 4 bJ.nd (aD b9 (aD ur (qv 4) ai) (qv 5)))))
   (aj (qz 6 bJ.nd ai)
   (aj (aX (bM bw (aD bV (aD bT (qv 0) ai) ai) ai) (aj (qap b7 (qv 3) ai)
   (au (qw gi rfl (oH (EN Hu (aU (aa (aD bV (aD bT (qv 0) ai) ai) (aa (aD bV (aD bT (qv 0) ai) ai) (aa ai av)))) G2 (G1 (aD b9 ai (aD bV (aD bT (qv 0) ai) ai))))) (lE (i:=5) bJ.nd rfl (by first|exact Or.inl rfl|exact Or.inr rfl)) (aj (qap b7 (qv 3) (aD b9 ai (qv 5)))
   (aj (qz 4 bJ.nd (aD b9 (aD ur (qv 4) ai) (qv 5)))
   (au (qz 6 bJ.nd (aD sJ (qv 6) ai)))))))) aE)
   (aj (aX (bM bw (aD bV (aD bT (qv 0) ai) ai) ai) (aj (qz 7 bJ.nd (aD bV (aD bT (qv 0) ai) ai))
   (aj (qap b7 (qv 3) (qi bg (aU (aa ai (aa ai av))) (aD bV (aD bT (qv 0) ai) ai)))
   (aj (qz 8 bJ.nd (i4 bw (aD bV (aD bT (qv 0) ai) ai) ai (mI _)))
   (aj (aX (bA (qv 8) (fun _=>rfl)) (au (qap b7 (qv 3) ai)) (au (aX (bM bw (aD bV (aD bT (qv 0) ai) ai) ai) (au (qap b7 (qv 3) ai)) aE)))
   (aj (aX (bM bw (aD bV (aD bT (qv 0) ai) ai) ai) (au (qap b7 (qv 3) ai)) aE)
   (aj (qz 3 bJ.nd (aD gy (qv 3) (mX (M:=[]) (ι:=[]) (x:="_law_sign_here") ⟨rfl,rfl,rfl,rfl,rfl,rfl,rfl,rfl,rfl,rfl,rfl,by decide +kernel⟩ rfl (FJ (gM tm rfl T.n_str L2.E.boot_str (aa (qv 7) av))) fun _ _ _ _=>(jz EJ rfl T.n_ord L2.E.boot_ord (aa (qv 0) av)))))
   (au (qz 6 bJ.nd (aD b9 (qv 6) (cH (by exact(bA (qv 8) (fun _=>rfl))) (nW kg (qv 7)) (qv 7))))))))))) aE)
   (aj (aX (bA (qv 1) (fun _=>rfl)) (au (qz 4 bJ.nd (nW kg (qv 4)))) aE)
   (au (az (ck (aa (qv 3) (aa (qx (yK T) T.e_law_plain hr aN (aa (qv 4) (aa (qv 6) av))) av))))))))))))))),
  (aw (aW (aq bu (aq bW ae ah) ah))
    (aw (aW (AW (by decide) (dM Gy (aq bW (aq bU ae ah) ah)) (dM Iz ae)))
    (aw (aW (gZ (cD ae) (aV (af ah ax)) (aV ax)))
    (aw (aW (aq ji ae (vK (by decide) ae (aq cb ah ae))))
    (aw (aW ah)
    (aw (lK (i:=2) (y8 ae (aW (aq cb (aq uk ae ah) ae))))
    (aw (aW ah)
    (aw (aY (ay (aq bu (aq bW (aq bU ae ah) ah) ah)) (aw (js ah)
    (y8 (Kr (aV (af (aq bW (aq bU ae ah) ah) (af (aq bW (aq bU ae ah) ah) (af ah ax)))) He (GQ (aq cb ah (aq bW (aq bU ae ah) ah)))) (aw (js (aq cb ah ae))
    (aw (aW (aq cb (aq uk ae ah) ae))
    (aW (aq sA ae ah)))))) aF)
    (aw (aY (ay (aq bu (aq bW (aq bU ae ah) ah) ah)) (aw (aW (aq bW (aq bU ae ah) ah))
    (aw (js (aq fL (aV (af ah (af ah ax))) (aq bW (aq bU ae ah) ah)))
    (aw (aW (aq bu (aq bW (aq bU ae ah) ah) ah))
    (aw (aY (cD ae) (js ah) (aY (ay (aq bu (aq bW (aq bU ae ah) ah) ah)) (js ah) aF))
    (aw (aY (ay (aq bu (aq bW (aq bU ae ah) ah) ah)) (js ah) aF)
    (aw (aW (aq ji ae (AW (by decide) (dM Gy ae) (dM LI ae))))
    (aW (aq cb ae (gZ (cD ae) (n8 j1 ae) ae))))))))) aF)
    (aw (aY (cD ae) (aW (n8 j1 ae)) aF)
    (lK (i:=3) (aC (cn (af ae (af (aO (af ae (af ae ax))) ax)))))))))))))))⟩
theorem sC(T:Txt K mg t):cx P w K mg base (CXE P w) 4 t.cA t.d_law_plain_value jc (spP K (b8 t) cA):=
 fi T.e_law_plain_value.F gm fun _ _ _ _ _ _ hr=>⟨_,(aj (qz 2 gm.nd (aD bV (aD bT (qv 1) ai) ai))
   (aj (aX (bM bw (qv 2) ai) (au (az (ck (aa aM (aa (aU (aa ai (aa ai (aa ai (aa ai av))))) (aa cY av)))))) aE)
   (aj (aX (bM bw (qv 2) ai) (au (az (ck (aa aM (aa (aU (aa ai (aa ai (aa ai (aa ai av))))) (aa u4 av)))))) aE)
   (aj (aX (bM bw (qv 2) ai) (au (az (ck (aa aM (aa (aU (aa ai (aa ai (aa ai (aa ai (aa ai av)))))) (aa u4 av)))))) aE)
   (aj (aX (bM bw (qv 2) ai) (aj (qz 3 gm.nd (qx (rE T) T.ik hr aN (aa (qv 0) (aa (aD b9 ai (aD bV (qv 1) ai)) av))))
   (au (az (ck (aa aM (aa (qx (u5 T) T.j7 hr aN (aa (qv 3) (aa (aD bT (qv 1) ai) av))) (aa (ck (aa aM (aa (gM ku rfl T.n_tuple L2.E.boot_tuple (aa (qv 3) av)) av))) av))))))) aE)
   (aj (qz 4 gm.nd (qx (xm T) T.lC hr aN (aa (aD bT (qv 1) ai) av)))
   (au (az (ck (aa aM (aa (qi dX (qv 4) ai) (aa (ck (aa aM (aa (qi dX (qi dX (qv 4) ai) ai) (aa (qi dX (qi dX (qv 4) ai) ai) av)))) av)))))))))))),
  (aw (aW (aq bW (aq bU ae ah) ah))
    (aw (aY (ay (aq bu ae ah)) (aC (cn (af aL (af (aV (af ah (af ah (af ah (af ah ax))))) (af dh ax))))) aF)
    (aw (aY (ay (aq bu ae ah)) (aC (cn (af aL (af (aV (af ah (af ah (af ah (af ah ax))))) (af uW ax))))) aF)
    (aw (aY (ay (aq bu ae ah)) (aC (cn (af aL (af (aV (af ah (af ah (af ah (af ah (af ah ax)))))) (af uW ax))))) aF)
    (aw (aY (ay (aq bu ae ah)) (aw (aW (aO (af ae (af (aq cb ah (aq bW ae ah)) ax))))
    (lK (i:=3) (aC (cn (af aL (af (aO (af ae (af (aq bU ae ah) ax))) (af (cn (af aL (af (dM yD ae) ax))) ax))))))) aF)
    (aw (aW (aO (af (aq bU ae ah) ax)))
    (aC (cn (af aL (af (aq ez ae ah) (af (cn (af aL (af (aq ez (aq ez ae ah) ah) (af (aq ez (aq ez ae ah) ah) ax)))) ax)))))))))))⟩
theorem yM(T:Txt K mg t):cx P w K mg base (CXE P w) 6 t.ic t.d_law_built oh (spP K (b8 t) ic):=
 fi T.e_law_built.F cz fun _ _ _ _ _ _ hr=>⟨_,(aj (qz 2 cz.nd (aU av))
   (aj (qz 3 cz.nd (aU av))
   (aj (qz 4 cz.nd (aU av))
   (aj (qz 5 cz.nd cY)
   (aj (qw gi rfl (jV rfl T.n_range (aa (qv 1) av)) (lE (i:=6) cz.nd rfl (by first|exact Or.inl rfl|exact Or.inr rfl)) (aj (qz 7 cz.nd (qx (mx T) T.eS hr aN (aa (qv 0) (aa (qv 6) av))))
   (au (aX (kC (kf (bA (qv 4) (fun _=>rfl)) (kn (bM bw (aD bV (qv 7) ai) ai)))) (aj (qex gu (qv 2) (qx (iB T) T.eC hr aN (aa (aD bT (qv 7) ai) av)))
   (au (qz 5 cz.nd (qx (tM T) T.e_law_close hr aN (aa (qv 2) (aa (qv 3) (aa (qv 4) av))))))) (au (aX (kC (pV (bA (qv 4) (fun _=>rfl)) (sU (bM bw (qv 6) ai)))) (aj (qz 8 cz.nd (qx (yT T) T.e_law_begin hr aN (aa (qv 0) (aa (qv 2) (aa (qv 3) (aa (qv 4) (aa (qv 7) av)))))))
   (aj (qz 9 cz.nd (kK T.n_len (qv 2)))
   (au (aX (kC (pV (bM CU (aD bV (qv 7) ai) ai) (sU (kC (kf (bM bw (qv 6) ai) (kn (bM CU (aD bV (qv 7) ai) ai))))))) (aj (qz 10 cz.nd (qi bg (aU (aa aM (aa aM av))) (aD bV (aD bT (qv 7) ai) ai)))
   (aj (qap b7 (qv 2) (cH (by exact(bM bw (qv 10) aM)) ai ai))
   (aj (qap b7 (qv 4) (aU (aa (qv 10) (aa (aU av) (aa (kK T.n_len (qv 3)) (aa (qv 8) av))))))
   (au (qap b7 (qv 3) (aU (aa (qv 10) (aa (qv 9) (aa ai (aa ai av)))))))))) (aj (qz 11 cz.nd (qx (sC T) T.e_law_plain_value hr aN (aa (qv 0) (aa (qv 7) av))))
   (aj (qex gu (qv 2) (qi dX (qv 11) ai))
   (aj (qap b7 (qv 3) (aU (aa (qi dX (qv 11) ai) (aa (qv 9) (aa (kK T.n_len (qv 2)) (aa (aD b9 (kK T.n_len (qv 3)) ai) av))))))
   (aj (qz 5 cz.nd (qi dX (qv 11) ai))
   (au (aX (kC (kf (bA (qv 4) (fun _=>rfl)) (kn (bM bw (qi bg (qi bg (qv 4) (nW kg ai)) ai) aM)))) (aj (wu (kK T.n_len (qv 3)) (vO (qi bg (qv 3) (nW kg ai)) ai set_list))
   (au (qap b7 (qi bg (qi bg (qv 4) (nW kg ai)) ai) (ck (aa (qv 8) (aa (qv 5) av)))))) (au (aX (bA (qv 4) (fun _=>rfl)) (au (qap b7 (qi bg (qi bg (qv 4) (nW kg ai)) ai) (qv 5))) aE)))))))))))) aE))))))
   (aj (lV gi (bA (qv 4) (fun _=>rfl)) (au (qz 5 cz.nd (qx (tM T) T.e_law_close hr aN (aa (qv 2) (aa (qv 3) (aa (qv 4) av)))))))
   (aj (qex gu (qv 2) (qx (iB T) T.eC hr aN (aa (qx (mx T) T.eS hr aN (aa (qv 0) (aa ai av))) av)))
   (au (az (ck (aa (qv 2) (aa (mX (M:=[]) (ι:=[]) (x:="_law_node") ⟨rfl,rfl,rfl,rfl,rfl,rfl,rfl,rfl,rfl,rfl,rfl,by decide +kernel⟩ rfl (oH (qv 3)) fun _ _ _ _=>(gM ku rfl T.n_tuple L2.E.boot_tuple (aa (qv 0) av))) (aa (qv 5) av))))))))))))),
  (aw (qR (lH (aV ax)))
    (aw (qR (lH (aV ax)))
    (aw (qR (lH (aV ax)))
    (aw (aW dh)
    (aw (vF ae (aw (aW (aO (af ae (af ae ax))))
    (aY (j8 (iu aR) (ay (aq bu (aq bW ae ah) ah))) (aw (gk aR (aO (af (aq bU ae ah) ax)))
    (oN (xi rfl (fS (qO aR) (fS (qO aR) (fS (qO aR) oV)))))) (aY (qc (iu aR) (ay (aq bu ae ah))) (aw (oN (xi rfl (fS (CB (W:=fun _ _ _ _=>False) ae) (fS (qO aR) (fS (qO aR) (fS (qO aR) (fS (CB (W:=fun _ _ _ _=>False) ae) oV)))))))
    (aw (aW (kj aR))
    (aY (qc (ay (aq Cc (aq bW ae ah) ah)) (j8 (ay (aq bu ae ah)) (ay (aq Cc (aq bW ae ah) ah)))) (aw (aW (aq fL (aV (af aL (af aL ax))) (aq bW (aq bU ae ah) ah)))
    (aw (eH aR (lH (gZ (ay (aq bu ae aL)) ah ah)))
    (aw (eH aR (Lw (tJ (lH ae) (tJ (lH (aV ax)) (tJ (lH (kj aR)) (tJ (lH ae) GY))))))
    (eH aR (lH (aV (af ae (af ae (af ah (af ah ax)))))))))) (aw (aW (aO (af ae (af ae ax))))
    (aw (gk aR (aq ez ae ah))
    (aw (eH aR (lH (aV (af (aq ez ae ah) (af ae (af (kj aR) (af (aq cb (kj aR) ah) ax)))))))
    (aw (aW (aq ez ae ah))
    (aY (j8 (iu aR) (ay (aq bu (gR (jU (jU aR (n8 j1 ah)) ah)) aL))) (aw (vE (jU aR (n8 j1 ah)) ah (lH (kj aR)))
    (eH (jU (jU aR (n8 j1 ah)) ah) (lH (cn (af ae (af ae ax)))))) (aY (iu aR) (eH (jU (jU aR (n8 j1 ah)) ah) (lH ae)) aF))))))))) aF))))
    (aw (lY (iu aR) (oN (xi rfl (fS (qO aR) (fS (qO aR) (fS (qO aR) oV))))))
    (aw (gk aR (aO (af (aO (af ae (af ah ax))) ax)))
    (vM (i:=3) (vM (i:=2) (aC (cn (af ae (af (vK (by decide) ae (dM yD ae)) (af ae ax))))))))))))))⟩
theorem uO(T:Txt K mg t):cx P w K mg base (CXE P w) 1 t.dj t.d_Walk___init__ j5 (spI K (b8 t) dj):=
 we T.F_Walk___init__ uG fun _ _ _ _ _ _ hr=>⟨_,(au (LA (qv 0) (aU (aa aM (aa aM (aa aM av)))))),
  (Hi aR (lH (aV (af aL (af aL (af aL ax))))) (jo T))⟩
theorem zd(T:Txt K mg t):cx P w K mg base (CXE P w) 1 t.fu t.d_word_rest oI (spP K (b8 t) fu):=
 fi T.e_word_rest.F zi fun _ _ _ _ _ _ hr=>⟨_,(au (az (Aw (aQ rfl T.m_WORDS T.r_WORDS) (qv 0)))),
  (aC (A0 T.q_WORDS ae))⟩
theorem oW(T:Txt K mg t):cx P w K mg base (CXE P w) 1 t.fE t.d_is_figure ot (spP K (b8 t) fE):=
 fi T.gc.F y0 fun _ _ _ _ _ _ hr=>⟨_,(au (az (GF nU nU (aQ rfl T.m_NOUGHT T.r_NOUGHT) (qv 0) (aQ rfl T.m_NINE T.r_NINE)))),
  (aC (kM nT nT ah ae ah))⟩
theorem qq(T:Txt K mg t):cx P w K mg base (CXE P w) 2 t.dS t.d_behind_lead lW (spP K (b8 t) dS):=
 fi T.gK.F vP fun _ _ _ _ _ _ hr=>⟨_,(aj (aX (bM bw (qv 0) (aQ rfl T.m_NOUGHT T.r_NOUGHT)) (au (az (aU (aa aM (aa aM av))))) aE)
   (aj (aX (bA (qx (oW T) T.gc hr aN (aa (qv 0) av)) (fun _=>rfl)) (au (az (aU (aa aM (aa aM (aa aM av)))))) aE)
   (au (az cY)))),
  (aw (aY (ay (aq bu ae ah)) (aC (aV (af aL (af aL ax)))) aF)
    (aw (aY (cD (aO (af ae ax))) (aC (aV (af aL (af aL (af aL ax))))) aF)
    (aC dh)))⟩
theorem pw(T:Txt K mg t):cx P w K mg base (CXE P w) 3 t.bQ t.d_behind_value lb (spP K (b8 t) bQ):=
 fi T.fT.F pC fun _ _ _ _ _ _ hr=>⟨_,(aj (aX (bM bw (qv 0) (aQ rfl T.m_ROW_BEGIN T.r_ROW_BEGIN)) (au (az (aU (aa aM (aa aM av))))) aE)
   (aj (aX (bM bw (qv 0) (aQ rfl T.m_FIELDS_BEGIN T.r_FIELDS_BEGIN)) (au (az (aU (aa aM (aa aM av))))) aE)
   (aj (aX (bM bw (qv 0) (aQ rfl T.m_QUOTE T.r_QUOTE)) (au (az (aU (aa aM av)))) aE)
   (aj (aX (bM bw (qv 0) (aQ rfl T.m_MINUS T.r_MINUS)) (au (az (aU (aa aM av)))) aE)
   (aj (qz 1 pC.nd (qx (zd T) T.e_word_rest hr aN (aa (qv 0) av)))
   (aj (aX (bM yn (qv 1) cY) (au (az (mX (M:=[]) (ι:=[]) (x:="sign") ⟨rfl,rfl,rfl,rfl,rfl,rfl,rfl,rfl,rfl,rfl,rfl,by decide +kernel⟩ rfl (KH (qv 1)) fun _ _ _ _=>(ck (aa (qv 0) (aa (qv 0) av)))))) aE)
   (au (az (qx (qq T) T.gK hr aN (aa (qv 0) av)))))))))),
  (aw (aY (ay (aq bu ae ah)) (aC (aV (af aL (af aL ax)))) aF)
    (aw (aY (ay (aq bu ae ah)) (aC (aV (af aL (af aL ax)))) aF)
    (aw (aY (ay (aq bu ae ah)) (aC (aV (af aL ax))) aF)
    (aw (aY (ay (aq bu ae ah)) (aC (aV (af aL ax))) aF)
    (aw (aW (aO (af ae ax)))
    (aw (aY (ay (aq yH ae dh)) (aC (Fu (by decide) ae (cn (af ae (af ae ax))))) aF)
    (aC (aO (af ae ax)))))))))⟩
theorem rq(T:Txt K mg t):cx P w K mg base (CXE P w) 3 t.aZ t.d_behind_in_number iL (spP K (b8 t) aZ):=
 fi T.e_behind_in_number.F rf fun _ _ _ _ _ _ hr=>⟨_,(aj (aX (bM bw (qv 0) aM) (au (az (qx (qq T) T.gK hr aN (aa (qv 1) av)))) aE)
   (aj (aX (bM bw (qv 0) aM) (au (az (cH (by exact(bA (qx (oW T) T.gc hr aN (aa (qv 1) av)) (fun _=>rfl))) (aU (aa aM av)) cY))) aE)
   (aj (aX (bM bw (qv 0) aM) (au (az (cH (by exact(bM bw (qv 1) (aQ rfl T.m_POINT T.r_POINT))) (aU (aa (ck (aa (aQ rfl T.m_NOUGHT T.r_NOUGHT) (aa (aQ rfl T.m_NINE T.r_NINE) av))) (aa aM av))) cY))) aE)
   (aj (aX (bM bw (qv 0) aM) (au (az (cH (by exact(ir la (qv 1) (ck (aa (aQ rfl T.m_SMALL_E T.r_SMALL_E) (aa (aQ rfl T.m_BIG_E T.r_BIG_E) av))) rfl)) (aU (aa aM (aa (ck (aa (aQ rfl T.m_NOUGHT T.r_NOUGHT) (aa (aQ rfl T.m_NINE T.r_NINE) av))) (aa aM av)))) cY))) aE)
   (au (az (cH (by exact(ir la (qv 1) (ck (aa (aQ rfl T.m_PLUS T.r_PLUS) (aa (aQ rfl T.m_MINUS T.r_MINUS) av))) rfl)) (aU av) cY))))))),
  (aw (aY (ay (aq bu ae aL)) (aC (aO (af ae ax))) aF)
    (aw (aY (ay (aq bu ae aL)) (aC (gZ (cD (aO (af ae ax))) (aV (af aL ax)) dh)) aF)
    (aw (aY (ay (aq bu ae aL)) (aC (gZ (ay (aq bu ae ah)) (aV (af (cn (af ah (af ah ax))) (af aL ax))) dh)) aF)
    (aw (aY (ay (aq bu ae aL)) (aC (gZ (ay (aq (pz hr.units) ae (cn (af ah (af ah ax))))) (aV (af aL (af (cn (af ah (af ah ax))) (af aL ax)))) dh)) aF)
    (aC (gZ (ay (aq (pz hr.units) ae (cn (af ah (af ah ax))))) (aV ax) dh))))))⟩
theorem tq(T:Txt K mg t):cx P w K mg base (CXE P w) 2 t.fY t.d_hex_worth pk (spP K (b8 t) fY):=
 fi T.jl.F yr fun _ _ _ _ _ _ hr=>⟨_,(aj (aX (bA (qx (oW T) T.gc hr aN (aa (qv 0) av)) (fun _=>rfl)) (au (az (aD sJ (qv 0) (aQ rfl T.m_NOUGHT T.r_NOUGHT)))) aE)
   (aj (aX (mE nU nU ai (qv 0) ai) (au (az (aD sJ (qv 0) ai))) aE)
   (aj (aX (mE nU nU ai (qv 0) ai) (au (az (aD sJ (qv 0) ai))) aE)
   (au (az cY))))),
  (aw (aY (cD (aO (af ae ax))) (aC (aq sA ae ah)) aF)
    (aw (aY (ay (kM nT nT ah ae ah)) (aC (aq sA ae ah)) aF)
    (aw (aY (ay (kM nT nT ah ae ah)) (aC (aq sA ae ah)) aF)
    (aC dh))))⟩
theorem uM(T:Txt K mg t):cx P w K mg base (CXE P w) 1 t.dJ t.d_behind_code_d jY (spP K (b8 t) dJ):=
 fi T.i3.F n5 fun _ _ _ _ _ _ hr=>⟨_,(aj (aX (bM lz (qv 0) ai) (au (az (aU (aa aM (aa aM av))))) aE)
   (aj (aX (bM lz (qv 0) ai) (aj (qz 1 n5.nd (aU (aa (ck (aa (aQ rfl T.m_BACKSLASH T.r_BACKSLASH) (aa (aQ rfl T.m_BACKSLASH T.r_BACKSLASH) av))) (aa (ck (aa (aQ rfl T.m_SMALL_U T.r_SMALL_U) (aa (aQ rfl T.m_SMALL_U T.r_SMALL_U) av))) (aa aM (aa aM (aa aM (aa aM av))))))))
   (au (az (aD gy (aU (aa aM (aa aM av))) (qv 1))))) aE)
   (au (az cY)))),
  (aw (aY (ay (aq lu ae ah)) (aC (aV (af aL (af aL ax)))) aF)
    (aw (aY (ay (aq lu ae ah)) (aw (aW (aV (af (cn (af ah (af ah ax))) (af (cn (af ah (af ah ax))) (af aL (af aL (af aL (af aL ax))))))))
    (aC (aq ji (aV (af aL (af aL ax))) ae))) aF)
    (aC dh)))⟩
theorem sQ(T:Txt K mg t):cx P w K mg base (CXE P w) 1 t.cV t.d_second_of_three jh (spP K (b8 t) cV):=
 fi T.e_second_of_three.F sE fun _ _ _ _ _ _ hr=>⟨_,(aj (aX (bM bw (qv 0) ai) (au (az (ck (aa ai (aa ai av))))) aE)
   (aj (aX (bM bw (qv 0) ai) (au (az (ck (aa ai (aa ai av))))) aE)
   (au (az (aQ rfl T.m_TAIL T.r_TAIL))))),
  (aw (aY (ay (aq bu ae ah)) (aC (cn (af ah (af ah ax)))) aF)
    (aw (aY (ay (aq bu ae ah)) (aC (cn (af ah (af ah ax)))) aF)
    (aC (oS T.q_TAIL))))⟩
theorem tj(T:Txt K mg t):cx P w K mg base (CXE P w) 1 t.dw t.d_second_of_four jS (spP K (b8 t) dw):=
 fi T.e_second_of_four.F tQ fun _ _ _ _ _ _ hr=>⟨_,(aj (aX (bM bw (qv 0) ai) (au (az (ck (aa ai (aa ai av))))) aE)
   (aj (aX (bM bw (qv 0) ai) (au (az (ck (aa ai (aa ai av))))) aE)
   (au (az (aQ rfl T.m_TAIL T.r_TAIL))))),
  (aw (aY (ay (aq bu ae ah)) (aC (cn (af ah (af ah ax)))) aF)
    (aw (aY (ay (aq bu ae ah)) (aC (cn (af ah (af ah ax)))) aF)
    (aC (oS T.q_TAIL))))⟩
theorem GD(T:Txt K mg t):cx P w K mg base (CXE P w) 2 t.jy t.d_tails vW (spP K (b8 t) jy):=
 fi T.e_tails.F FU fun _ _ _ _ _ _ hr=>⟨_,(aj (aX (mE nU lz ai (qv 0) ai) (au (az (aU av))) aE)
   (aj (aX (mE nU lz ai (qv 0) ai) (au (az (aU (aa (aQ rfl T.m_TAIL T.r_TAIL) av)))) aE)
   (aj (aX (mE nU lz ai (qv 0) ai) (au (az (aU (aa (qx (sQ T) T.e_second_of_three hr aN (aa (qv 0) av)) (aa (aQ rfl T.m_TAIL T.r_TAIL) av))))) aE)
   (aj (aX (mE nU lz ai (qv 0) ai) (au (az (aU (aa (qx (tj T) T.e_second_of_four hr aN (aa (qv 0) av)) (aa (aQ rfl T.m_TAIL T.r_TAIL) (aa (aQ rfl T.m_TAIL T.r_TAIL) av)))))) aE)
   (au (az cY)))))),
  (aw (aY (ay (kM nT lu ah ae ah)) (aC (aV ax)) aF)
    (aw (aY (ay (kM nT lu ah ae ah)) (aC (aV (af (oS T.q_TAIL) ax))) aF)
    (aw (aY (ay (kM nT lu ah ae ah)) (aC (aV (af (aO (af ae ax)) (af (oS T.q_TAIL) ax)))) aF)
    (aw (aY (ay (kM nT lu ah ae ah)) (aC (aV (af (aO (af ae ax)) (af (oS T.q_TAIL) (af (oS T.q_TAIL) ax))))) aF)
    (aC dh)))))⟩
theorem rj(T:Txt K mg t):cx P w K mg base (CXE P w) 3 t.b4 t.d_behind_character iN (spP K (b8 t) b4):=
 fi T.gC.F ly fun _ _ _ _ _ _ hr=>⟨_,(aj (aX (bM bw (qv 0) (aQ rfl T.m_QUOTE T.r_QUOTE)) (au (az (aU av))) aE)
   (aj (aX (bM bw (qv 0) (aQ rfl T.m_BACKSLASH T.r_BACKSLASH)) (au (az (aU (aa aM (aa aM av))))) aE)
   (aj (qz 1 ly.nd (qx (GD T) T.e_tails hr aN (aa (qv 0) av)))
   (aj (aX (kC (pV (bM lz (qv 0) (aQ rfl T.m_BLANK T.r_BLANK)) (sU (bM v8 (qv 1) cY)))) (au (az cY)) aE)
   (au (az (aD gy (qv 1) (aU (aa aM av))))))))),
  (aw (aY (ay (aq bu ae ah)) (aC (aV ax)) aF)
    (aw (aY (ay (aq bu ae ah)) (aC (aV (af aL (af aL ax)))) aF)
    (aw (aW (aO (af ae ax)))
    (aw (aY (qc (ay (aq lu ae ah)) (ay (aq wY ae dh))) (aC dh) aF)
    (aC (aq ji ae (aV (af aL ax))))))))⟩
theorem ve(T:Txt K mg t):cx P w K mg base (CXE P w) 1 t.bS t.d_short_escape kP (spP K (b8 t) bS):=
 fi T.jQ.F vc fun _ _ _ _ _ _ hr=>⟨_,(au (az (Aw (aQ rfl T.m_SHORT_ESCAPES T.r_SHORT_ESCAPES) (qv 0)))),
  (aC (A0 T.q_SHORT_ESCAPES ae))⟩
theorem rA(T:Txt K mg t):cx P w K mg base (CXE P w) 2 t.cK t.d_behind_backslash iO (spP K (b8 t) cK):=
 fi T.gv.F rn fun _ _ _ _ _ _ hr=>⟨_,(aj (aX (bM bw (qv 0) (aQ rfl T.m_SMALL_U T.r_SMALL_U)) (au (az (aU (aa aM av)))) aE)
   (au (az (cH (by exact(bM v8 (qx (ve T) T.jQ hr aN (aa (qv 0) av)) cY)) cY (aU av))))),
  (aw (aY (ay (aq bu ae ah)) (aC (aV (af aL ax))) aF)
    (aC (gZ (ay (aq wY (aO (af ae ax)) dh)) dh (aV ax))))⟩
theorem tO(T:Txt K mg t):cx P w K mg base (CXE P w) 4 t.bN t.d_behind_in_text jK (spP K (b8 t) bN):=
 fi T.e_behind_in_text.F m5 fun _ _ _ _ _ _ hr=>⟨_,(aj (aX (bM bw (qv 0) aM) (au (az (qx (rj T) T.gC hr aN (aa (qv 1) av)))) aE)
   (aj (aX (bM bw (qv 0) aM) (au (az (qx (rA T) T.gv hr aN (aa (qv 1) av)))) aE)
   (aj (qz 2 m5.nd (qx (tq T) T.jl hr aN (aa (qv 1) av)))
   (aj (aX (bM v8 (qv 2) cY) (au (az cY)) aE)
   (aj (aX (bM bw (qv 0) aM) (au (az (cH (by exact(bM bw (qv 2) ai)) (aU (aa aM av)) (aU (aa aM (aa aM (aa aM av))))))) aE)
   (au (az (qx (uM T) T.i3 hr aN (aa (qv 2) av))))))))),
  (aw (aY (ay (aq bu ae aL)) (aC (aO (af ae ax))) aF)
    (aw (aY (ay (aq bu ae aL)) (aC (aO (af ae ax))) aF)
    (aw (aW (aO (af ae ax)))
    (aw (aY (ay (aq wY ae dh)) (aC dh) aF)
    (aw (aY (ay (aq bu ae aL)) (aC (gZ (ay (aq bu ae ah)) (aV (af aL ax)) (aV (af aL (af aL (af aL ax)))))) aF)
    (aC (aO (af ae ax))))))))⟩
theorem xl(T:Txt K mg t):cx P w K mg base (CXE P w) 3 t.dD t.d_behind_hex nh (spP K (b8 t) dD):=
 fi T.e_behind_hex.F se fun _ _ _ _ _ _ hr=>⟨_,(aj (qz 2 se.nd (qx (tq T) T.jl hr aN (aa (qv 1) av)))
   (aj (aX (bM v8 (qv 2) cY) (au (az cY)) aE)
   (aj (aX (bM bw (qv 0) aM) (au (az (cH (by exact(bM bw (qv 2) ai)) (aU av) cY))) aE)
   (aj (aX (bM bw (qv 0) aM) (au (az (cH (by exact(bM C6 (qv 2) ai)) (aU av) cY))) aE)
   (au (az (aU av))))))),
  (aw (aW (aO (af ae ax)))
    (aw (aY (ay (aq wY ae dh)) (aC dh) aF)
    (aw (aY (ay (aq bu ae aL)) (aC (gZ (ay (aq bu ae ah)) (aV ax) dh)) aF)
    (aw (aY (ay (aq bu ae aL)) (aC (gZ (ay (aq Cr ae ah)) (aV ax) dh)) aF)
    (aC (aV ax))))))⟩
theorem rp(T:Txt K mg t):cx P w K mg base (CXE P w) 4 t.cg t.d_behind_row_begin iG (spP K (b8 t) cg):=
 fi T.gA.F lr fun _ _ _ _ _ _ hr=>⟨_,(aj (aX (bM bw (qv 0) (aQ rfl T.m_ROW_END T.r_ROW_END)) (au (az (aU av))) aE)
   (aj (qz 1 lr.nd (qx (pw T) T.fT hr aN (aa (qv 0) av)))
   (au (az (cH (by exact(bM v8 (qv 1) cY)) cY (aD gy (qv 1) (aU (aa aM (aa aM av))))))))),
  (aw (aY (ay (aq bu ae ah)) (aC (aV ax)) aF)
    (aw (aW (aO (af ae ax)))
    (aC (gZ (ay (aq wY ae dh)) dh (aq ji ae (aV (af aL (af aL ax))))))))⟩
theorem qB(T:Txt K mg t):cx P w K mg base (CXE P w) 1 t.eP t.d_member_rest lX (spP K (b8 t) eP):=
 fi T.dC.F xf fun _ _ _ _ _ _ hr=>⟨_,(au (az (aU (aa aM (aa (ck (aa (aQ rfl T.m_COLON T.r_COLON) (aa (aQ rfl T.m_COLON T.r_COLON) av))) (aa aM (aa aM (aa aM (aa aM av))))))))),
  (aC (aV (af aL (af (cn (af ah (af ah ax))) (af aL (af aL (af aL (af aL ax))))))))⟩
theorem o7(T:Txt K mg t):cx P w K mg base (CXE P w) 2 t.b6 t.d_behind_fields_begin gp (spP K (b8 t) b6):=
 fi T.fb.F oZ fun _ _ _ _ _ _ hr=>⟨_,(aj (aX (bM bw (qv 0) (aQ rfl T.m_FIELDS_END T.r_FIELDS_END)) (au (az (aU av))) aE)
   (au (az (cH (by exact(bM bw (qv 0) (aQ rfl T.m_QUOTE T.r_QUOTE))) (aD gy (aU (aa aM av)) (xG ((qB T).mono (by decide)) hr rfl T.dC.m T.dC.F.kp T.dC.b aN)) cY)))),
  (aw (aY (ay (aq bu ae ah)) (aC (aV ax)) aF)
    (aC (gZ (ay (aq bu ae ah)) (aq ji (aV (af aL ax)) (aO ax)) dh)))⟩
theorem pI(T:Txt K mg t):cx P w K mg base (CXE P w) 5 t.bb t.d_behind_in_brackets gP (spP K (b8 t) bb):=
 fi T.e_behind_in_brackets.F pH fun _ _ _ _ _ _ hr=>⟨_,(aj (aX (bM bw (qv 0) aM) (au (az (qx (rp T) T.gA hr aN (aa (qv 1) av)))) aE)
   (aj (aX (bM bw (qv 0) aM) (au (az (qx (o7 T) T.fb hr aN (aa (qv 1) av)))) aE)
   (aj (aX (bM bw (qv 0) aM) (aj (aX (bM bw (qv 1) (aQ rfl T.m_COMMA T.r_COMMA)) (au (az (aU (aa aM (aa aM (aa aM (aa aM av))))))) aE)
   (au (az (cH (by exact(bM bw (qv 1) (aQ rfl T.m_ROW_END T.r_ROW_END))) (aU av) cY)))) aE)
   (aj (aX (bM bw (qv 1) (aQ rfl T.m_COMMA T.r_COMMA)) (au (az (aD gy (aU (aa aM (aa aM av))) (xG ((qB T).mono (by decide)) hr rfl T.dC.m T.dC.F.kp T.dC.b aN)))) aE)
   (au (az (cH (by exact(bM bw (qv 1) (aQ rfl T.m_FIELDS_END T.r_FIELDS_END))) (aU av) cY))))))),
  (aw (aY (ay (aq bu ae aL)) (aC (aO (af ae ax))) aF)
    (aw (aY (ay (aq bu ae aL)) (aC (aO (af ae ax))) aF)
    (aw (aY (ay (aq bu ae aL)) (aw (aY (ay (aq bu ae ah)) (aC (aV (af aL (af aL (af aL (af aL ax)))))) aF)
    (aC (gZ (ay (aq bu ae ah)) (aV ax) dh))) aF)
    (aw (aY (ay (aq bu ae ah)) (aC (aq ji (aV (af aL (af aL ax))) (aO ax))) aF)
    (aC (gZ (ay (aq bu ae ah)) (aV ax) dh))))))⟩
theorem m4(T:Txt K mg t):cx P w K mg base (CXE P w) 1 t.fH t.d_is_white qd (spP K (b8 t) fH):=
 fi T.cj.F AE fun _ _ _ _ _ _ hr=>⟨_,(au (az (i4 la (qv 0) (aQ rfl T.m_WHITE T.r_WHITE) rfl))),
  (aC (aq (pz hr.units) ae (oS T.q_WHITE)))⟩
theorem DJ(T:Txt K mg t):cx P w K mg base (CXE P w) 6 t.kJ t.d_behind uo (spP K (b8 t) kJ):=
 fi T.tD.F Ea fun _ _ _ _ _ _ hr=>⟨_,(aj (aX (bA (jz n6 rfl T.n_isinstance L2.E.boot_isinstance (aa (qv 0) (aa (qZ (v:=.ty _) rfl T.n_tuple L2.E.boot_tuple rfl) av))) (fun _=>rfl)) (au (az (cH (by exact(mE nU nU (qi dX (qv 0) ai) (qv 1) (qi dX (qv 0) ai))) (aU av) cY))) aE)
   (aj (aX (ir la (qv 0) (ck (aa aM (aa aM (aa aM (aa aM (aa aM av)))))) rfl) (au (az (qx (rq T) T.e_behind_in_number hr aN (aa (qv 0) (aa (qv 1) av))))) aE)
   (aj (aX (ir la (qv 0) (ck (aa aM (aa aM (aa aM (aa aM av))))) rfl) (au (az (qx (tO T) T.e_behind_in_text hr aN (aa (qv 0) (aa (qv 1) av))))) aE)
   (aj (aX (ir la (qv 0) (ck (aa aM (aa aM (aa aM av)))) rfl) (au (az (qx (xl T) T.e_behind_hex hr aN (aa (qv 0) (aa (qv 1) av))))) aE)
   (aj (aX (ir la (qv 0) (aQ rfl T.m_UNENDED T.r_UNENDED) rfl) (au (az (qx (pI T) T.e_behind_in_brackets hr aN (aa (qv 0) (aa (qv 1) av))))) aE)
   (aj (aX (bM bw (qv 0) aM) (au (az (cH (by exact(bA (qx (m4 T) T.cj hr aN (aa (qv 1) av)) (fun _=>rfl))) (aU (aa aM av)) cY))) aE)
   (aj (aX (bM bw (qv 0) aM) (au (az (cH (by exact(bM bw (qv 1) (aQ rfl T.m_QUOTE T.r_QUOTE))) (aU (aa aM av)) cY))) aE)
   (au (az (qx (pw T) T.fT hr aN (aa (qv 1) av))))))))))),
  (aw (aY (cD (um ae)) (aC (gZ (ay (kM nT nT (aq ez ae ah) ae (aq ez ae ah))) (aV ax) dh)) aF)
    (aw (aY (ay (aq (pz hr.units) ae (cn (af aL (af aL (af aL (af aL (af aL ax)))))))) (aC (aO (af ae (af ae ax)))) aF)
    (aw (aY (ay (aq (pz hr.units) ae (cn (af aL (af aL (af aL (af aL ax))))))) (aC (aO (af ae (af ae ax)))) aF)
    (aw (aY (ay (aq (pz hr.units) ae (cn (af aL (af aL (af aL ax)))))) (aC (aO (af ae (af ae ax)))) aF)
    (aw (aY (ay (aq (pz hr.units) ae (zf fun S=>by unfold Rep;exact⟨_,_,rfl,T.q_UNENDED S,(.cons (by unfold Rep;rfl) (.cons (by unfold Rep;rfl) (.cons (by unfold Rep;rfl) (.cons (by unfold Rep;rfl) .nil))))⟩))) (aC (aO (af ae (af ae ax)))) aF)
    (aw (aY (ay (aq bu ae aL)) (aC (gZ (cD (aO (af ae ax))) (aV (af aL ax)) dh)) aF)
    (aw (aY (ay (aq bu ae aL)) (aC (gZ (ay (aq bu ae ah)) (aV (af aL ax)) dh)) aF)
    (aC (aO (af ae ax))))))))))⟩
theorem ud(T:Txt K mg t):cx P w K mg base (CXE P w) 1 t.cL t.d_Walk_brackets j9 (spI K (b8 t) cL):=
 we T.F_Walk_brackets uH fun _ _ _ _ _ _ hr=>⟨_,(au (az (kK T.n_len (DW (M:=[]) (ι:=[]) (x:="item") ⟨rfl,rfl,rfl,rfl,rfl,rfl,rfl,rfl,rfl,rfl,rfl,by decide +kernel⟩ rfl (oH (wM (qv 0))) (fun _ _ _ _=>(ir la (qv 0) (aQ rfl T.m_UNENDED T.r_UNENDED) rfl)) fun _ _ _ _=>(qv 0))))),
  (aC (dM iI (BY (by decide) (gR (zL aR (jo T))) (ay (aq (pz hr.units) ae (zf fun S=>by unfold Rep;exact⟨_,_,rfl,T.q_UNENDED S,(.cons (by unfold Rep;rfl) (.cons (by unfold Rep;rfl) (.cons (by unfold Rep;rfl) (.cons (by unfold Rep;rfl) .nil))))⟩))) ae)))⟩
theorem vh(T:Txt K mg t):cx P w K mg base (CXE P w) 7 t.dW t.d_Walk_goes_on lj (spI K (b8 t) dW):=
 we T.F_Walk_goes_on kW fun _ _ _ _ _ _ hr=>⟨_,(aj (lV gi (bA (wM (qv 0)) (fun _=>rfl)) (aj (qz 2 kW.nd (BQ PySem.F.plainAttrs_list PySem.F.slot_list_pop PySem.F.type_list_pop Bv (wM (qv 0))))
   (aj (qz 3 kW.nd (qx (DJ T) T.tD hr aN (aa (qv 2) (aa (qv 1) av))))
   (aj (aX (bM yn (qv 3) cY) (aj (qex gu (wM (qv 0)) (Lu (qv 3) (nW kg ai)))
   (au (az (i4 nU (xJ (qv 0) T.c_Walk T.h_Walk_brackets ((ud T).mono (by decide)) hr T.b_Walk_brackets aN) (aQ rfl T.m_MOST_BRACKETS T.r_MOST_BRACKETS) (mI _))))) aE)
   (au (aX (ir xH (qv 2) (aQ rfl T.m_LOOSE T.r_LOOSE) rfl) (au (az u4)) aE))))))
   (au (az u4))),
  (aw (lY (iu (zL aR (jo T))) (aw (oN (yY (zL aR (jo T))))
    (aw (aW (aO (af ae (af ae ax))))
    (aw (aY (ay (aq yH ae dh)) (aw (gk (zL aR (jo T)) (LS ae (n8 j1 ah)))
    (aC (aq nT (AI rfl rfl (Jg aR) oV) ah))) aF)
    (aY (ay (aq (zG hr.units) ae (zf fun S=>by unfold Rep;exact⟨_,_,rfl,T.q_LOOSE S,(.cons (by unfold Rep;rfl) (.cons (by unfold Rep;rfl) (.cons (by unfold Rep;rfl) (.cons (by unfold Rep;rfl) (.cons (by unfold Rep;rfl) .nil)))))⟩))) (aC uW) aF)))))
    (aC uW))⟩
theorem yF(T:Txt K mg t):cx P w K mg base (CXE P w) 8 t.fZ t.d_Walk_take o3 (spI K (b8 t) fZ):=
 we T.F_Walk_take oF fun _ _ _ _ _ _ hr=>⟨_,(aj (qw gi rfl (HP rfl T.n_enumerate (aa (qv 1) av)) (LB rfl (zK (lE (i:=2) oF.nd rfl (by first|exact Or.inl rfl|exact Or.inr rfl)) (zK (lE (i:=3) oF.nd rfl (by first|exact Or.inl rfl|exact Or.inr rfl)) Hn))) (au (aX (qF (bA (Ar (qv 0) T.c_Walk T.h_Walk_goes_on ((vh T).mono (by decide)) hr T.b_Walk_goes_on aN (aa (qv 3) av)) (fun _=>rfl))) (au (az (qv 2))) aE)))
   (au (az (kK T.n_len (qv 1))))),
  (aw (IL ae (Hg (Ai rfl rfl (qO aR) (fS (CB (W:=fun _ _ _ _=>False) ae) oV)) lP aF))
    (aC (dM iI ae)))⟩
theorem uA(T:Txt K mg t):cx P w K mg base (CXE P w) 1 t.dk t.d_Walk_is_whole jZ (spI K (b8 t) dk):=
 we T.F_Walk_is_whole uz fun _ _ _ _ _ _ hr=>⟨_,(au (az (jz Ek rfl T.n_all L2.E.boot_all (aa (mX (M:=[]) (ι:=[]) (x:="item") ⟨rfl,rfl,rfl,rfl,rfl,rfl,rfl,rfl,rfl,rfl,rfl,by decide +kernel⟩ rfl (oH (wM (qv 0))) fun _ _ _ _=>(i4 la (qv 0) (aQ rfl T.m_LOOSE T.r_LOOSE) rfl)) av)))),
  (aC (dM (Kt hr.hd) (vK (by decide) (gR (zL aR (jo T))) (aq (pz hr.units) ae (zf fun S=>by unfold Rep;exact⟨_,_,rfl,T.q_LOOSE S,(.cons (by unfold Rep;rfl) (.cons (by unfold Rep;rfl) (.cons (by unfold Rep;rfl) (.cons (by unfold Rep;rfl) (.cons (by unfold Rep;rfl) .nil)))))⟩)))))⟩
theorem Ff(T:Txt K mg t):cx P w K mg base (CXE P w) 9 t.pj t.d_fault wa (spP K (b8 t) pj):=
 fi T.vy.F wm fun _ _ _ _ _ _ hr=>⟨_,(aj (qz 1 wm.nd (Fm T.k_Walk (uO T) (hr.mono (by decide)) rfl T.m_Walk T.b_Walk___init__))
   (aj (qz 2 wm.nd (Ar (qv 1) T.c_Walk T.h_Walk_take ((yF T).mono (by decide)) hr T.b_Walk_take aN (aa (qv 0) av)))
   (aj (aX (kC (kf (bM bw (qv 2) (kK T.n_len (qv 0))) (kn (bA (xJ (qv 1) T.c_Walk T.h_Walk_is_whole ((uA T).mono (by decide)) hr T.b_Walk_is_whole aN) (fun _=>rfl))))) (au (az cY)) aE)
   (au (az (qv 2)))))),
  (aw (qR (GV rfl))
    (aw (oN (Ai rfl rfl (qO aR) (fS (CB (W:=fun _ _ _ _=>False) ae) oV)))
    (aw (aY (j8 (ay (aq bu ae (dM iI ae))) (cD (AI rfl rfl (Jg aR) oV))) (aC dh) aF)
    lP)))⟩
theorem vg(T:Txt K mg t):cx P w K mg base (CXE P w) 10 t.dU t.d_refuse_fault kQ (spP K (b8 t) dU):=
 fi T.e_refuse_fault.F pA fun _ _ _ _ _ _ hr=>⟨_,(aj (qz 1 pA.nd (qx (Ff T) T.vy hr aN (aa (qv 0) av)))
   (au (aX (bM yn (qv 1) cY) (au Ho) aE))),
  (aw (aW (aO (af ae ax)))
    (aY (ay (aq yH ae dh)) I8 aF))⟩
theorem wR(T:Txt K mg t):cx P w K mg base (CXE P w) 1 t.eR t.d_with_member mz (spP K (b8 t) eR):=
 fi T.e_with_member.F pS fun _ _ _ _ _ _ hr=>⟨_,(aj (qz 2 pS.nd (qi bg (qv 0) (qv 1)))
   (aj (aX (bM vH (qi dX (qv 2) ai) aM) (au (az (qv 2))) aE)
   (au (az (ck (aa (qi dX (qv 2) ai) (aa (qi dX (qv 2) ai) (aa (qi dX (qv 2) ai) (aa (qi dX (qi bg (qv 0) (aD b9 (qv 1) ai)) ai) av))))))))),
  (aw (aW (aq fL ae ae))
    (aw (aY (ay (aq wC (aq ez ae ah) aL)) lP aF)
    (aC (cn (af (aq ez ae ah) (af (aq ez ae ah) (af (aq ez ae ah) (af (aq ez (aq fL ae (aq cb ae ah)) ah) ax))))))))⟩
theorem zC(T:Txt K mg t):cx P w K mg base (CXE P w) 1 t.i7 t.d_text_end qg (spP K (b8 t) i7):=
 fi T.e_text_end.F pZ fun _ _ _ _ _ _ hr=>⟨_,(aj (qz 2 pZ.nd (aD b9 (qv 1) ai))
   (aj (lV gi (bM vH (qi bg (qv 0) (qv 2)) (aQ rfl T.m_QUOTE T.r_QUOTE)) (au (uj (i:=2) pZ.nd rfl (Or.inl rfl) (cH (by exact(bM bw (qi bg (qv 0) (qv 2)) (aQ rfl T.m_BACKSLASH T.r_BACKSLASH))) ai ai) ui)))
   (au (az (aD b9 (qv 2) ai))))),
  (aw (aW (aq cb ae ah))
    (aw (lY (ay (aq wC (aq fL ae ae) ah)) (jX (gZ (ay (aq bu (aq fL ae ae) ah)) ah ah)))
    (aC (aq cb ae ah))))⟩
theorem yB(T:Txt K mg t):cx P w K mg base (CXE P w) 2 t.ig t.d_plain_end oj (spP K (b8 t) ig):=
 fi T.e_plain_end.F o6 fun _ _ _ _ _ _ hr=>⟨_,(aj (qz 2 o6.nd (qv 1))
   (aj (lV gi (kC (kf (bM lz (qv 2) (kK T.n_len (qv 0))) (kf (qF (bA (qx (m4 T) T.cj hr aN (aa (qi bg (qv 0) (qv 2)) av)) (fun _=>rfl))) (kn (ir xH (qi bg (qv 0) (qv 2)) (ck (aa (aQ rfl T.m_COMMA T.r_COMMA) (aa (aQ rfl T.m_ROW_END T.r_ROW_END) (aa (aQ rfl T.m_FIELDS_END T.r_FIELDS_END) av)))) rfl))))) (au (uj (i:=2) o6.nd rfl (Or.inl rfl) ai ui)))
   (au (az (qv 2))))),
  (aw (aW ae)
    (aw (lY (j8 (ay (aq lu ae (dM iI ae))) (j8 (sO (cD (aO (af (aq fL ae ae) ax)))) (ay (aq (zG hr.units) (aq fL ae ae) (cn (af ah (af ah (af ah ax)))))))) (jX ah))
    lP))⟩
theorem Bg(T:Txt K mg t):cx P w K mg base (CXE P w) 2 t.fm t.d_is_name sI (spP K (b8 t) fm):=
 fi T.e_is_name.F wV fun _ _ _ _ _ _ hr=>⟨_,(aj (lV gi (kC (kf (bM lz (qv 1) (kK T.n_len (qv 0))) (kn (bA (qx (m4 T) T.cj hr aN (aa (qi bg (qv 0) (qv 1)) av)) (fun _=>rfl))))) (au (uj (i:=1) wV.nd rfl (Or.inl rfl) ai ui)))
   (au (az (Fh (i4 lz (qv 1) (kK T.n_len (qv 0)) (mI _)) (EE (i4 bw (qi bg (qv 0) (qv 1)) (aQ rfl T.m_COLON T.r_COLON) (mI _))))))),
  (aw (lY (j8 (ay (aq lu ae (dM iI ae))) (cD (aO (af (aq fL ae ae) ax)))) (jX ah))
    (aC (EF (aq lu ae (dM iI ae)) (aq bu (aq fL ae ae) ah))))⟩
theorem Hc(T:Txt K mg t):cx P w K mg base (CXE P w) 3 t.je t.d_leaf yJ (spP K (b8 t) je):=
 fi T.e_leaf.F y7 fun _ _ _ _ _ _ hr=>⟨_,(aj (qz 3 y7.nd (El (aQ rfl T.m_KINDS T.r_KINDS) (qi bg (qv 0) (qv 1)) aM))
   (aj (aX (bM vH (qv 3) aM) (au (az (ck (aa (qv 3) (aa (qv 1) (aa (qx (yB T) T.e_plain_end hr aN (aa (qv 0) (aa (qv 1) av))) (aa (aD b9 (qv 2) ai) av))))))) aE)
   (aj (qz 4 y7.nd (qx (zC T) T.e_text_end hr aN (aa (qv 0) (aa (qv 1) av))))
   (au (az (ck (aa (cH (by exact(bA (qx (Bg T) T.e_is_name hr aN (aa (qv 0) (aa (qv 4) av))) (fun _=>rfl))) aM aM) (aa (qv 1) (aa (qv 4) (aa (aD b9 (qv 2) ai) av)))))))))),
  (aw (aW (DC T.q_KINDS (aq fL ae ae) aL))
    (aw (aY (ay (aq wC ae aL)) (aC (cn (af ae (af ae (af (aO (af ae (af ae ax))) (af (aq cb ae ah) ax)))))) aF)
    (aw (aW (aO (af ae (af ae ax))))
    (aC (cn (af (gZ (cD (aO (af ae (af ae ax)))) aL aL) (af ae (af ae (af (aq cb ae ah) ax)))))))))⟩
theorem Fb(T:Txt K mg t):cx P w K mg base (CXE P w) 11 t.mU t.d_nodes xj (spP K (b8 t) mU):=
 fi T.e_nodes.F iP fun _ _ _ _ _ _ hr=>⟨_,(aj (y6 (qx (vg T) T.e_refuse_fault hr aN (aa (qv 0) av)))
   (aj (qz 1 iP.nd (aU av))
   (aj (qz 2 iP.nd (aU av))
   (aj (qz 3 iP.nd ai)
   (aj (lV gi (bM lz (qv 3) (kK T.n_len (qv 0))) (aj (qz 4 iP.nd (qi bg (qv 0) (qv 3)))
   (au (aX (ir la (qv 4) (ck (aa (aQ rfl T.m_ROW_BEGIN T.r_ROW_BEGIN) (aa (aQ rfl T.m_FIELDS_BEGIN T.r_FIELDS_BEGIN) av))) rfl) (aj (qap b7 (qv 2) (kK T.n_len (qv 1)))
   (aj (qap b7 (qv 1) (ck (aa (qi M4 (aQ rfl T.m_KINDS T.r_KINDS) (qv 4)) (aa (qv 3) av))))
   (au (uj (i:=3) iP.nd rfl (Or.inl rfl) ai ui)))) (au (aX (ir la (qv 4) (ck (aa (aQ rfl T.m_ROW_END T.r_ROW_END) (aa (aQ rfl T.m_FIELDS_END T.r_FIELDS_END) av))) rfl) (aj (uj (i:=3) iP.nd rfl (Or.inl rfl) ai ui)
   (aj (qz 5 iP.nd (BQ PySem.F.plainAttrs_list PySem.F.slot_list_pop PySem.F.type_list_pop Bv (qv 2)))
   (au (wu (ck (aa (qi dX (qi bg (qv 1) (qv 5)) ai) (aa (qi dX (qi bg (qv 1) (qv 5)) ai) (aa (qv 3) (aa (kK T.n_len (qv 1)) av))))) (vO (qv 1) (qv 5) set_list))))) (au (aX (kC (pV (bA (qx (m4 T) T.cj hr aN (aa (qv 4) av)) (fun _=>rfl)) (sU (ir la (qv 4) (ck (aa (aQ rfl T.m_COMMA T.r_COMMA) (aa (aQ rfl T.m_COLON T.r_COLON) av))) rfl)))) (au (uj (i:=3) iP.nd rfl (Or.inl rfl) ai ui)) (aj (qap b7 (qv 1) (qx (Hc T) T.e_leaf hr aN (aa (qv 0) (aa (qv 3) (aa (kK T.n_len (qv 1)) av)))))
   (au (qz 3 iP.nd (qi dX (qi bg (qv 1) (nW kg ai)) ai))))))))))))
   (au (az (mX (M:=["tree"]) (ι:=[1]) (x:="i") ⟨rfl,rfl,rfl,rfl,rfl,rfl,rfl,rfl,rfl,rfl,rfl,by decide +kernel⟩ rfl (jV rfl T.n_range (aa (kK T.n_len (qv 1)) av)) fun _ _ _ _=>(qx (wR T) T.e_with_member hr BU (aa (qv 0) (aa (qv 1) av))))))))))),
  (aw (Iw (aO (af ae ax)))
    (aw (aW (aV ax))
    (aw (qR (lH (aV ax)))
    (aw (aW ah)
    (aw (lY (ay (aq lu ae (dM iI ae))) (aw (aW (aq fL ae ae))
    (aY (ay (aq (pz hr.units) ae (cn (af ah (af ah ax))))) (aw (eH aR (lH (dM iI ae)))
    (aw (js (cn (af (HW T.q_KINDS ae) (af ae ax))))
    (jX ah))) (aY (ay (aq (pz hr.units) ae (cn (af ah (af ah ax))))) (aw (jX ah)
    (aw (oN (yY aR))
    (Lc ae (cn (af (aq ez (aq fL ae ae) ah) (af (aq ez (aq fL ae ae) ah) (af ae (af (dM iI ae) ax)))))))) (aY (qc (cD (aO (af ae ax))) (ay (aq (pz hr.units) ae (cn (af ah (af ah ax)))))) (jX ah) (aw (js (aO (af ae (af ae (af (dM iI ae) ax)))))
    (aW (aq ez (aq fL ae (n8 j1 ah)) ah))))))))
    (lK (i:=1) (aC (wN (by decide) (dM iI ae) (aO (af ae (af ae ax)))))))))))⟩
theorem oQ(T:Txt K mg t):cx P w K mg base (CXE P w) 1 t.fz t.d_law_whole oU (spP K (b8 t) fz):=
 fi T.jr.F zm fun _ _ _ _ _ _ hr=>⟨_,(au (az (Fh (jz n6 rfl T.n_isinstance L2.E.boot_isinstance (aa (qv 0) (aa (qZ (v:=.ty _) rfl T.n_int L2.E.boot_int rfl) av))) (EE (Mr (jz n6 rfl T.n_isinstance L2.E.boot_isinstance (aa (qv 0) (aa (qZ (v:=.ty _) rfl T.n_bool L2.E.boot_bool rfl) av)))))))),
  (aC (EF (um ae) (Lk (um ae))))⟩
theorem Ki(T:Txt K mg t):cx P w K mg base (CXE P w) 12 t.xN t.d_law B5 (spP K (b8 t) xN):=
 fi T.FP.F uf fun _ _ _ _ _ _ hr=>⟨_,(aj (qz 1 uf.nd (qx (yM T) T.e_law_built hr aN (aa (qv 0) (aa (aD b9 ai (aD bV (qx (mx T) T.eS hr aN (aa (qv 0) (aa ai av))) ai)) av))))
   (aj (qz 2 uf.nd (gM yS rfl T.n_list L2.E.boot_list (aa (qi dX (qv 1) ai) av)))
   (aj (qz 3 uf.nd (qx (Fb T) T.e_nodes hr aN (aa (qv 2) av)))
   (aj (aX (kC (pV (qF (bA (jz n6 rfl T.n_isinstance L2.E.boot_isinstance (aa (qv 3) (aa (qZ (v:=.ty _) rfl T.n_list L2.E.boot_list rfl) av))) (fun _=>rfl))) (pV (bM Eu (qv 2) (qi dX (qv 1) ai)) (sU (bM vH (kK T.n_len (qv 3)) (kK T.n_len (qi dX (qv 1) ai))))))) (au (az u4)) aE)
   (aj (qw gi rfl (jV rfl T.n_range (aa (kK T.n_len (qv 3)) av)) (lE (i:=4) uf.nd rfl (by first|exact Or.inl rfl|exact Or.inr rfl)) (aj (qz 5 uf.nd (qi bg (qv 3) (qv 4)))
   (aj (aX (kC (pV (qF (bA (jz n6 rfl T.n_isinstance L2.E.boot_isinstance (aa (qv 5) (aa (qZ (v:=.ty _) rfl T.n_tuple L2.E.boot_tuple rfl) av))) (fun _=>rfl))) (pV (bM vH (kK T.n_len (qv 5)) ai) (sU (qF (bA (jz n6 rfl T.n_isinstance L2.E.boot_isinstance (aa (qi dX (qv 5) ai) (aa (qZ (v:=.ty _) rfl T.n_str L2.E.boot_str rfl) av))) (fun _=>rfl))))))) (au (az u4)) aE)
   (au (aX (kC (pV (qF (bA (qx (oQ T) T.jr hr aN (aa (qi dX (qv 5) ai) av)) (fun _=>rfl))) (pV (qF (bA (qx (oQ T) T.jr hr aN (aa (qi dX (qv 5) ai) av)) (fun _=>rfl))) (pV (qF (bA (qx (oQ T) T.jr hr aN (aa (qi dX (qv 5) ai) av)) (fun _=>rfl))) (sU (bM Eu (qv 5) (qi bg (qi dX (qv 1) ai) (qv 4)))))))) (au (az u4)) aE)))))
   (au (az u4))))))),
  (aw (aW (aO (af ae (af (aq cb ah (aq bW (aO (af ae (af ah ax))) ah)) ax))))
    (aw (aW (dM Bx (aq ez ae ah)))
    (aw (lK (i:=2) (aW (aO (af ae ax))))
    (aw (aY (qc (sO (cD (um ae))) (qc (ay (aq (E6 hr.units) ae (aq ez ae ah))) (ay (aq wC (dM iI ae) (dM iI (aq ez ae ah)))))) (aC uW) aF)
    (aw (vF (dM iI ae) (aw (aW (aq fL ae ae))
    (aw (aY (qc (sO (cD (um ae))) (qc (ay (aq wC (dM iI ae) ah)) (sO (cD (um (aq ez ae ah)))))) (aC uW) aF)
    (aY (qc (sO (cD (aO (af (aq ez ae ah) ax)))) (qc (sO (cD (aO (af (aq ez ae ah) ax)))) (qc (sO (cD (aO (af (aq ez ae ah) ax)))) (ay (aq (E6 hr.units) ae (aq fL (aq ez ae ah) ae)))))) (aC uW) aF))))
    (aC uW))))))⟩
end
open PySem.W in
theorem all_mk{l:PySem.W.OpenLaw}{w:World}{K:PySem.W.Frag}{h:Heap}{mg:Str->Option Value}{fa:Addr}(X:K.In h)(G:h.Ns mainGlobals mg)(hfa:mg "law" = some (.ref fa))
  (h0:Fd K "tails" yZ f0 d0)
  (h1:Fd K "second_of_three" jJ f1 d1)
  (h2:Fd K "second_of_four" kd f2 d2)
  (h3:Fd K "is_white" sT f3 d3)
  (h4:Fd K "is_figure" qJ f4 d4)
  (h5:Fd K "hex_worth" qP f5 d5)
  (h6:Fd K "word_rest" qL f6 d6)
  (h7:Fd K "short_escape" mB f7 d7)
  (h8:Fd K "behind" wb f8 d8)
  (h9:Fd K "behind_value" lT f9 d9)
  (h10:Fd K "behind_lead" nG f10 d10)
  (h11:Fd K "behind_in_number" jf f11 d11)
  (h12:Fd K "behind_in_text" j0 f12 d12)
  (h13:Fd K "behind_character" jb f13 d13)
  (h14:Fd K "behind_backslash" jg f14 d14)
  (h15:Fd K "behind_code_d" kU f15 d15)
  (h16:Fd K "behind_hex" oG f16 d16)
  (h17:Fd K "behind_in_brackets" hJ f17 d17)
  (h18:Fd K "behind_row_begin" jd f18 d18)
  (h19:Fd K "behind_fields_begin" gO f19 d19)
  (h20:Fd K "member_rest" nN f20 d20)
  (h21:Fd K "fault" yX f21 d21)
  (h22:Fd K "refuse_fault" mq f22 d22)
  (h23:Fd K "nodes" zA f23 d23)
  (h24:Fd K "leaf" BO f24 d24)
  (h25:Fd K "plain_end" qD f25 d25)
  (h26:Fd K "text_end" sL f26 d26)
  (h27:Fd K "is_name" uD f27 d27)
  (h28:Fd K "with_member" m8 f28 d28)
  (h29:Fd K "_law_cell" si f29 d29)
  (h30:Fd K "_law_mix" uF f30 d30)
  (h31:Fd K "_law_whole" qA f31 d31)
  (h32:Fd K "_law_point" ql f32 d32)
  (h33:Fd K "_law_points" n9 f33 d33)
  (h34:Fd K "_law_eight" pY f34 d34)
  (h35:Fd K "_law_hex" ue f35 d35)
  (h36:Fd K "_law_sign" sP f36 d36)
  (h37:Fd K "_law_text" sy f37 d37)
  (h38:Fd K "_law_number" om f38 d38)
  (h39:Fd K "_law_plain" pT f39 d39)
  (h40:Fd K "_law_white" qb f40 d40)
  (h41:Fd K "_law_plain_value" jI f41 d41)
  (h42:Fd K "_law_name" sM f42 d42)
  (h43:Fd K "_law_close" pR f43 d43)
  (h44:Fd K "_law_begin" pM f44 d44)
  (h45:Fd K "_law_built" p5 f45 d45)
  (a46:nsIn K mainGlobals "law" = some (some (.ref f46))) (l46:K.lookup f46=some ⟨oc46,od46,.func (fnOf "law" "law" (fe zJ) (dO zJ) (aA zJ) .none kV46 dc46 pm46 an46 cd46 ct46),sl46⟩) (c46:codeIn K cd46 "law" = true) (k46:keepIn K (.ref f46)=true)
  (a47:findIn K (.ref C0) "__init__" = some (some (.ref f47))) (i47:isFn K (.ref f47)=true) (l47:K.lookup f47=some ⟨oc47,od47,.func (fnOf "__init__" "Walk.__init__" (fe eG) (dO eG) (aA eG) .none kV47 dc47 pm47 an47 cd47 ct47),sl47⟩) (c47:codeIn K cd47 "Walk.__init__" = true) (k47:keepIn K (.ref f47)=true)
  (a48:findIn K (.ref C0) "take" = some (some (.ref f48))) (i48:isFn K (.ref f48)=true) (l48:K.lookup f48=some ⟨oc48,od48,.func (fnOf "take" "Walk.take" (fe gX) (dO gX) (aA gX) .none kV48 dc48 pm48 an48 cd48 ct48),sl48⟩) (c48:codeIn K cd48 "Walk.take" = true) (k48:keepIn K (.ref f48)=true)
  (a49:findIn K (.ref C0) "goes_on" = some (some (.ref f49))) (i49:isFn K (.ref f49)=true) (l49:K.lookup f49=some ⟨oc49,od49,.func (fnOf "goes_on" "Walk.goes_on" (fe eY) (dO eY) (aA eY) .none kV49 dc49 pm49 an49 cd49 ct49),sl49⟩) (c49:codeIn K cd49 "Walk.goes_on" = true) (k49:keepIn K (.ref f49)=true)
  (a50:findIn K (.ref C0) "brackets" = some (some (.ref f50))) (i50:isFn K (.ref f50)=true) (l50:K.lookup f50=some ⟨oc50,od50,.func (fnOf "brackets" "Walk.brackets" (fe eI) (dO eI) (aA eI) .none kV50 dc50 pm50 an50 cd50 ct50),sl50⟩) (c50:codeIn K cd50 "Walk.brackets" = true) (k50:keepIn K (.ref f50)=true)
  (a51:findIn K (.ref C0) "is_whole" = some (some (.ref f51))) (i51:isFn K (.ref f51)=true) (l51:K.lookup f51=some ⟨oc51,od51,.func (fnOf "is_whole" "Walk.is_whole" (fe eJ) (dO eJ) (aA eJ) .none kV51 dc51 pm51 an51 cd51 ct51),sl51⟩) (c51:codeIn K cd51 "Walk.is_whole" = true) (k51:keepIn K (.ref f51)=true)
  (z0:nsIn K mainGlobals "isinstance" = some none)
  (z1:nsIn K mainGlobals "tuple" = some none)
  (z2:nsIn K mainGlobals "len" = some none)
  (z3:nsIn K mainGlobals "range" = some none)
  (z4:nsIn K mainGlobals "int" = some none)
  (z5:nsIn K mainGlobals "bool" = some none)
  (z6:nsIn K mainGlobals "str" = some none)
  (z7:nsIn K mainGlobals "ord" = some none)
  (z8:nsIn K mainGlobals "list" = some none)
  (z9:nsIn K mainGlobals "enumerate" = some none)
  (z10:nsIn K mainGlobals "all" = some none)
  (ca0:nsIn K mainGlobals "Walk" = some (some (.ref C0))) (pg0:plainGet K C0 Str.empty=true) (hd0:hasDictIn K C0=true) (po0:plainOver K C0=true) (sa0:findIn K (.ref C0) "__setattr__" = some (some (.builtin "object.__setattr__"))) (mk0:makesIn K C0=true) (kc0:keepIn K (.ref C0)=true)
  (na0_0:findIn K (.ref C0) "coming" = some none)
  (va0:nsIn K mainGlobals "TAIL" = some (some (.ref v0))) (vl0:K.lookup v0=some ⟨.type "tuple",vd0,.seq #[.int 128 t0_0,.int 191 t0_1] vn0,vs0⟩)
  (va1:nsIn K mainGlobals "BLANK" = some (some (.int 32 t1)))
  (va2:nsIn K mainGlobals "QUOTE" = some (some (.int 34 t2)))
  (va3:nsIn K mainGlobals "PLUS" = some (some (.int 43 t3)))
  (va4:nsIn K mainGlobals "COMMA" = some (some (.int 44 t4)))
  (va5:nsIn K mainGlobals "MINUS" = some (some (.int 45 t5)))
  (va6:nsIn K mainGlobals "POINT" = some (some (.int 46 t6)))
  (va7:nsIn K mainGlobals "NOUGHT" = some (some (.int 48 t7)))
  (va8:nsIn K mainGlobals "NINE" = some (some (.int 57 t8)))
  (va9:nsIn K mainGlobals "COLON" = some (some (.int 58 t9)))
  (va10:nsIn K mainGlobals "BIG_E" = some (some (.int 69 t10)))
  (va11:nsIn K mainGlobals "ROW_BEGIN" = some (some (.int 91 t11)))
  (va12:nsIn K mainGlobals "BACKSLASH" = some (some (.int 92 t12)))
  (va13:nsIn K mainGlobals "ROW_END" = some (some (.int 93 t13)))
  (va14:nsIn K mainGlobals "SMALL_E" = some (some (.int 101 t14)))
  (va15:nsIn K mainGlobals "SMALL_U" = some (some (.int 117 t15)))
  (va16:nsIn K mainGlobals "FIELDS_BEGIN" = some (some (.int 123 t16)))
  (va17:nsIn K mainGlobals "FIELDS_END" = some (some (.int 125 t17)))
  (va18:nsIn K mainGlobals "WHITE" = some (some (.ref v18))) (vl18:K.lookup v18=some ⟨.type "tuple",vd18,.seq #[.int 9 t18_0,.int 10 t18_1,.int 13 t18_2,.int 32 t18_3] vn18,vs18⟩)
  (va19:nsIn K mainGlobals "WORDS" = some (some (.ref v19))) (vl19:K.lookup v19=some ⟨.type "dict",none,.dict #[⟨110,.int 110 tk19_0,.ref w19_0⟩,⟨116,.int 116 tk19_1,.ref w19_1⟩,⟨102,.int 102 tk19_2,.ref w19_2⟩] ep19,#[]⟩)
  (wl19_0:K.lookup w19_0=some ⟨.type "tuple",wd19_0,.seq #[.int 117 tx19_0_0,.int 108 tx19_0_1,.int 108 tx19_0_2] wn19_0,ws19_0⟩)
  (wl19_1:K.lookup w19_1=some ⟨.type "tuple",wd19_1,.seq #[.int 114 tx19_1_0,.int 117 tx19_1_1,.int 101 tx19_1_2] wn19_1,ws19_1⟩)
  (wl19_2:K.lookup w19_2=some ⟨.type "tuple",wd19_2,.seq #[.int 97 tx19_2_0,.int 108 tx19_2_1,.int 115 tx19_2_2,.int 101 tx19_2_3] wn19_2,ws19_2⟩)
  (vm19:(v19==sysModules)=false)
  (va20:nsIn K mainGlobals "SHORT_ESCAPES" = some (some (.ref v20))) (vl20:K.lookup v20=some ⟨.type "dict",none,.dict #[⟨34,.int 34 tk20_0,(.int 34 tv20_0)⟩,⟨92,.int 92 tk20_1,(.int 92 tv20_1)⟩,⟨47,.int 47 tk20_2,(.int 47 tv20_2)⟩,⟨98,.int 98 tk20_3,(.int 8 tv20_3)⟩,⟨102,.int 102 tk20_4,(.int 12 tv20_4)⟩,⟨110,.int 110 tk20_5,(.int 10 tv20_5)⟩,⟨114,.int 114 tk20_6,(.int 13 tv20_6)⟩,⟨116,.int 116 tk20_7,(.int 9 tv20_7)⟩] ep20,#[]⟩)
  (vm20:(v20==sysModules)=false)
  (va21:nsIn K mainGlobals "MOST_BRACKETS" = some (some (.int 64 t21)))
  (va22:nsIn K mainGlobals "LOOSE" = some (some (.ref v22))) (vl22:K.lookup v22=some ⟨.type "tuple",vd22,.seq #[.str "white" t22_0,.str "figures" t22_1,.str "fraction" t22_2,.str "exponent" t22_3,.str "sign" t22_4] vn22,vs22⟩)
  (va23:nsIn K mainGlobals "UNENDED" = some (some (.ref v23))) (vl23:K.lookup v23=some ⟨.type "tuple",vd23,.seq #[.str "row" t23_0,.str "more row" t23_1,.str "fields" t23_2,.str "more fields" t23_3] vn23,vs23⟩)
  (va24:nsIn K mainGlobals "KINDS" = some (some (.ref v24))) (vl24:K.lookup v24=some ⟨.type "dict",none,.dict #[⟨34,.int 34 tk24_0,(.str "text" tv24_0)⟩,⟨91,.int 91 tk24_1,(.str "row" tv24_1)⟩,⟨102,.int 102 tk24_2,(.str "false" tv24_2)⟩,⟨110,.int 110 tk24_3,(.str "null" tv24_3)⟩,⟨116,.int 116 tk24_4,(.str "true" tv24_4)⟩,⟨123,.int 123 tk24_5,(.str "fields" tv24_5)⟩] ep24,#[]⟩)
  (vm24:(v24==sysModules)=false):
  ∃ fd:FuncData,(∀(s:Shared) (v:Value),BindsTo s fd ⟨[v],[]⟩ [("_law_script",v)]) /\ ∀ base:Heap,K.In base->base.Ns mainGlobals mg->cx l.prog w K mg base (CXE l.prog w) 12 fa fd ["_law_script"] (zq K):=by
 have e:=hfa.symm.trans (PySem.W.mg_of X G a46);cases e
 have T:Txt K mg ⟨f0,d0,f1,d1,f2,d2,f3,d3,f4,d4,f5,d5,f6,d6,f7,d7,f8,d8,f9,d9,f10,d10,f11,d11,f12,d12,f13,d13,f14,d14,f15,d15,f16,d16,f17,d17,f18,d18,f19,d19,f20,d20,f21,d21,f22,d22,f23,d23,f24,d24,f25,d25,f26,d26,f27,d27,f28,d28,f29,d29,f30,d30,f31,d31,f32,d32,f33,d33,f34,d34,f35,d35,f36,d36,f37,d37,f38,d38,f39,d39,f40,d40,f41,d41,f42,d42,f43,d43,f44,d44,f45,d45,f46,_,f47,_,f48,_,f49,_,f50,_,f51,_,C0,v0,_,_,_,_,_,_,_,_,_,_,_,_,_,_,_,_,_,v18,v19,v20,_,v22,v23,v24⟩:=⟨h0.e1 X G,
  h1.e1 X G,
  h2.e1 X G,
  h3.e1 X G,
  h4.e1 X G,
  h5.e1 X G,
  h6.e1 X G,
  h7.e1 X G,
  h8.e2 X G,
  h9.e1 X G,
  h10.e1 X G,
  h11.e2 X G,
  h12.e2 X G,
  h13.e1 X G,
  h14.e1 X G,
  h15.e1 X G,
  h16.e2 X G,
  h17.e2 X G,
  h18.e1 X G,
  h19.e1 X G,
  h20.e0 X G,
  h21.e1 X G,
  h22.e1 X G,
  h23.e1 X G,
  h24.e3 X G,
  h25.e2 X G,
  h26.e2 X G,
  h27.e2 X G,
  h28.e2 X G,
  h29.e2 X G,
  h30.e2 X G,
  h31.e1 X G,
  h32.e1 X G,
  h33.e2 X G,
  h34.e1 X G,
  h35.e2 X G,
  h36.e2 X G,
  h37.e2 X G,
  h38.e1 X G,
  h39.e2 X G,
  h40.e1 X G,
  h41.e2 X G,
  h42.e2 X G,
  h43.e3 X G,
  h44.e5 X G,
  h45.e2 X G,
  (cC a46 l46 c46 k46).e1 X G,
  mj (st:=eG) l47 c47 k47,(mj (st:=eG) l47 c47 k47).binds (ps:=["self"]) fun _ _ _ _ _ _ us hl=>match us,hl with|[_],_=>rfl,
  mj (st:=gX) l48 c48 k48,⟨a48,i48,k48⟩,(mj (st:=gX) l48 c48 k48).binds (ps:=["self","row"]) fun _ _ _ _ _ _ us hl=>match us,hl with|[_,_],_=>rfl,
  mj (st:=eY) l49 c49 k49,⟨a49,i49,k49⟩,(mj (st:=eY) l49 c49 k49).binds (ps:=["self","byte"]) fun _ _ _ _ _ _ us hl=>match us,hl with|[_,_],_=>rfl,
  mj (st:=eI) l50 c50 k50,⟨a50,i50,k50⟩,(mj (st:=eI) l50 c50 k50).binds (ps:=["self"]) fun _ _ _ _ _ _ us hl=>match us,hl with|[_],_=>rfl,
  mj (st:=eJ) l51 c51 k51,⟨a51,i51,k51⟩,(mj (st:=eJ) l51 c51 k51).binds (ps:=["self"]) fun _ _ _ _ _ _ us hl=>match us,hl with|[_],_=>rfl,
  PySem.W.mg_none_of X G z0,
  PySem.W.mg_none_of X G z1,
  PySem.W.mg_none_of X G z2,
  PySem.W.mg_none_of X G z3,
  PySem.W.mg_none_of X G z4,
  PySem.W.mg_none_of X G z5,
  PySem.W.mg_none_of X G z6,
  PySem.W.mg_none_of X G z7,
  PySem.W.mg_none_of X G z8,
  PySem.W.mg_none_of X G z9,
  PySem.W.mg_none_of X G z10,
  PySem.W.mg_of X G ca0,⟨pg0,hd0,po0,sa0⟩,⟨mk0,a47,i47,kc0⟩,
  na0_0,
  PySem.W.mg_of X G va0,rfl,fun H=>.inr ⟨_,_,_,vl0,rfl,rfl,(by show 2<=sizeLine;decide),.cons ⟨_,rfl⟩ (.cons ⟨_,rfl⟩ (.nil))⟩,
  PySem.W.mg_of X G va1,⟨t1,rfl⟩,
  PySem.W.mg_of X G va2,⟨t2,rfl⟩,
  PySem.W.mg_of X G va3,⟨t3,rfl⟩,
  PySem.W.mg_of X G va4,⟨t4,rfl⟩,
  PySem.W.mg_of X G va5,⟨t5,rfl⟩,
  PySem.W.mg_of X G va6,⟨t6,rfl⟩,
  PySem.W.mg_of X G va7,⟨t7,rfl⟩,
  PySem.W.mg_of X G va8,⟨t8,rfl⟩,
  PySem.W.mg_of X G va9,⟨t9,rfl⟩,
  PySem.W.mg_of X G va10,⟨t10,rfl⟩,
  PySem.W.mg_of X G va11,⟨t11,rfl⟩,
  PySem.W.mg_of X G va12,⟨t12,rfl⟩,
  PySem.W.mg_of X G va13,⟨t13,rfl⟩,
  PySem.W.mg_of X G va14,⟨t14,rfl⟩,
  PySem.W.mg_of X G va15,⟨t15,rfl⟩,
  PySem.W.mg_of X G va16,⟨t16,rfl⟩,
  PySem.W.mg_of X G va17,⟨t17,rfl⟩,
  PySem.W.mg_of X G va18,rfl,fun H=>.inr ⟨_,_,_,vl18,rfl,rfl,(by show 4<=sizeLine;decide),.cons ⟨_,rfl⟩ (.cons ⟨_,rfl⟩ (.cons ⟨_,rfl⟩ (.cons ⟨_,rfl⟩ (.nil))))⟩,
  PySem.W.mg_of X G va19,rfl,⟨[(110,.ref w19_0),(116,.ref w19_1),(102,.ref w19_2)],⟨vm19,by simp,_,_,vl19,.cons ⟨rfl,⟨_,rfl⟩,rfl⟩ (.cons ⟨rfl,⟨_,rfl⟩,rfl⟩ (.cons ⟨rfl,⟨_,rfl⟩,rfl⟩ (.nil)))⟩,.cons ⟨rfl,fun _=>by unfold Rep;exact⟨_,[.int 117,.int 108,.int 108],rfl,.inr ⟨_,_,_,wl19_0,rfl,rfl,(by show 3<=sizeLine;decide),.cons ⟨_,rfl⟩ (.cons ⟨_,rfl⟩ (.cons ⟨_,rfl⟩ (.nil)))⟩,b0.ints (ns:=[117,108,108])⟩⟩ (.cons ⟨rfl,fun _=>by unfold Rep;exact⟨_,[.int 114,.int 117,.int 101],rfl,.inr ⟨_,_,_,wl19_1,rfl,rfl,(by show 3<=sizeLine;decide),.cons ⟨_,rfl⟩ (.cons ⟨_,rfl⟩ (.cons ⟨_,rfl⟩ (.nil)))⟩,b0.ints (ns:=[114,117,101])⟩⟩ (.cons ⟨rfl,fun _=>by unfold Rep;exact⟨_,[.int 97,.int 108,.int 115,.int 101],rfl,.inr ⟨_,_,_,wl19_2,rfl,rfl,(by show 4<=sizeLine;decide),.cons ⟨_,rfl⟩ (.cons ⟨_,rfl⟩ (.cons ⟨_,rfl⟩ (.cons ⟨_,rfl⟩ (.nil))))⟩,b0.ints (ns:=[97,108,115,101])⟩⟩ (.nil)))⟩,
  PySem.W.mg_of X G va20,rfl,⟨[(34,.int 34),(92,.int 92),(47,.int 47),(98,.int 8),(102,.int 12),(110,.int 10),(114,.int 13),(116,.int 9)],⟨vm20,by simp,_,_,vl20,.cons ⟨rfl,⟨_,rfl⟩,⟨_,rfl⟩⟩ (.cons ⟨rfl,⟨_,rfl⟩,⟨_,rfl⟩⟩ (.cons ⟨rfl,⟨_,rfl⟩,⟨_,rfl⟩⟩ (.cons ⟨rfl,⟨_,rfl⟩,⟨_,rfl⟩⟩ (.cons ⟨rfl,⟨_,rfl⟩,⟨_,rfl⟩⟩ (.cons ⟨rfl,⟨_,rfl⟩,⟨_,rfl⟩⟩ (.cons ⟨rfl,⟨_,rfl⟩,⟨_,rfl⟩⟩ (.cons ⟨rfl,⟨_,rfl⟩,⟨_,rfl⟩⟩ (.nil))))))))⟩,.cons ⟨rfl,fun _=>by unfold Rep;rfl⟩ (.cons ⟨rfl,fun _=>by unfold Rep;rfl⟩ (.cons ⟨rfl,fun _=>by unfold Rep;rfl⟩ (.cons ⟨rfl,fun _=>by unfold Rep;rfl⟩ (.cons ⟨rfl,fun _=>by unfold Rep;rfl⟩ (.cons ⟨rfl,fun _=>by unfold Rep;rfl⟩ (.cons ⟨rfl,fun _=>by unfold Rep;rfl⟩ (.cons ⟨rfl,fun _=>by unfold Rep;rfl⟩ (.nil))))))))⟩,
  PySem.W.mg_of X G va21,⟨t21,rfl⟩,
  PySem.W.mg_of X G va22,rfl,fun H=>.inr ⟨_,_,_,vl22,rfl,rfl,(by show 5<=sizeLine;decide),.cons ⟨_,rfl⟩ (.cons ⟨_,rfl⟩ (.cons ⟨_,rfl⟩ (.cons ⟨_,rfl⟩ (.cons ⟨_,rfl⟩ (.nil)))))⟩,
  PySem.W.mg_of X G va23,rfl,fun H=>.inr ⟨_,_,_,vl23,rfl,rfl,(by show 4<=sizeLine;decide),.cons ⟨_,rfl⟩ (.cons ⟨_,rfl⟩ (.cons ⟨_,rfl⟩ (.cons ⟨_,rfl⟩ (.nil))))⟩,
  PySem.W.mg_of X G va24,rfl,⟨[(34,.str "text"),(91,.str "row"),(102,.str "false"),(110,.str "null"),(116,.str "true"),(123,.str "fields")],⟨vm24,by simp,_,_,vl24,.cons ⟨rfl,⟨_,rfl⟩,⟨_,rfl⟩⟩ (.cons ⟨rfl,⟨_,rfl⟩,⟨_,rfl⟩⟩ (.cons ⟨rfl,⟨_,rfl⟩,⟨_,rfl⟩⟩ (.cons ⟨rfl,⟨_,rfl⟩,⟨_,rfl⟩⟩ (.cons ⟨rfl,⟨_,rfl⟩,⟨_,rfl⟩⟩ (.cons ⟨rfl,⟨_,rfl⟩,⟨_,rfl⟩⟩ (.nil))))))⟩,.cons ⟨rfl,fun _=>by unfold Rep;rfl⟩ (.cons ⟨rfl,fun _=>by unfold Rep;rfl⟩ (.cons ⟨rfl,fun _=>by unfold Rep;rfl⟩ (.cons ⟨rfl,fun _=>by unfold Rep;rfl⟩ (.cons ⟨rfl,fun _=>by unfold Rep;rfl⟩ (.cons ⟨rfl,fun _=>by unfold Rep;rfl⟩ (.nil))))))⟩⟩
 exact⟨_,fun s v=>.of_eq rfl,fun base _ _=>(Ki T).imp (HR fun ns h=>FP ns h)⟩
theorem walk{l:PySem.W.OpenLaw}{q:Program}{loose:List Str}{XP:(Str->Option Value)->Heap->Prop}{YP:World->Heap->Prop}{d:DefRec}{K:Params->PySem.W.Frag}(hn:l.most=some 63)(hdf:d.params.defaults=[])
  (hY:∀(w:World) (h:Heap),YP w h->(K w.params).In h)
  (F:∀(w:World) (mg:Str->Option Value) (fa:Addr) (h:Heap),(K w.params).In h->h.Ns mainGlobals mg->mg d.name=some (.ref fa) ->
    ∃ fd:FuncData,(∀(s:Shared) (u:Value),BindsTo s fd ⟨[u],[]⟩ [("_law_script",u)]) /\ ∀ base:Heap,(K w.params).In base->base.Ns mainGlobals mg->cx l.prog w (K w.params) mg base (CXE l.prog w) 12 fa fd ["_law_script"] (zq (K w.params))):
  PySem.W.WalkO q loose XP YP l.row.toRowW d [] (fun f vs=>PySem.call f vs):=
 L2.GX (n:=63) (k:=12) (x:="_law_script") (CX:=fun w=>CXE l.prog w) (sp:=fun w=>zq (K w.params)) hn (by decide) hdf ⟨rfl,by decide,by decide⟩ hY F (fun _ _ a ns hl _ hS=>⟨a,ns,rfl,hS,hl,fun _=>rfl⟩) fun _ _ _ _ _ z=>let ⟨_,_,_,_,_,_,_,_,_,_,f⟩:=z;f
end L2.plainglass_k11_nodes_told
open PySem PySem.W PyProof.Rows
namespace PySem.W.Fast
def tw7347402343372760195:=0
def tw3266070935657568160:=0
def tw6353439566960649134:=0
def tw10563968297752246824:=0
def tw11097335210156810836:=0
def tw8470950838813435024:=0
def tw5454562075311980810:=0
def tw7009120490718983134:=0
def tw4609779180966575118:=0
def tw3622932466061026009:=0
def tw17339238865105938436:=0
def tw15165843379449568140:=0
def tw11359304198781066747:=0
def tw10151810416261831934:=0
def tw5261352559393160021:=0
def tw15937887403131027293:=0
def tw9057358596705297102:=0
def tw7079051294201378537:=0
def tw2991519489711427737:=0
def tw14913847651599485882:=0
def tw17410820249605107081:=0
def tw2600088332582481917:=0
def tw4582371153889265052:=0
def tw1838131834090030276:=0
def tw1277521381388867044:=0
def tw16146668692247373085:=0
def tw1749689047328639182:=0
def tw16146366402388773505:=0
def tw16572514603678756309:=0
def tw9626574318415458400:=0
def tw777308384748050045:=0
def tw15302240898151184164:=0
def tw9512249792773024669:=0
def tw10381788381847158704:=0
def tw8108107425962126139:=0
def tw10084140614656043308:=0
def tw2369514403926421048:=0
def tw82078349084679752:=0
def tw4088236058808825752:=0
def tw8433386612199994932:=0
def tw913710976800709642:=0
def tw573183347467723565:=0
def tw13706457365628578694:=0
def tw17964521219695888021:=0
def tw8844661721084915428:=0
def tw14556723659125761007:=0
def tw1482352219007077609:=0
def tw4255616364573249493:=0
def tw11351138732688266325:=0
def tw8741312114628337831:=0
def tw3185472194741681514:=0
def tw428783005839153677:=0
def tw17725219307663681641:=0
def tw5322599006377721122:=0
def tw6156951851701081478:=0
def tw6768953568950917506:=0
def tw15028417698217567999:=0
def tw2217205050840495298:=0
def tw11858190946363692916:=0
def tw4388905298571172414:=0
def tw14228885838709649293:=0
def tw17977583726503513884:=0
def tw10568440017291296527:=0
def tw5251031439223755889:=0
def tw8961784869045701225:=0
def tw3132495951493752939:=0
def tw4744756050619028151:=0
def tw9281483019145923336:=0
def tw3918525154425997109:=0
def tw6941006272325032238:=0
def tw10769455416916872417:=0
def tw7660277557368128021:=0
def tw11441160460104274452:=0
def tw8867509975099956483:=0
def tw4714721405066239503:=0
def tw6331447350359257296:=0
def tw15384998178725250825:=0
def tw569934141493610847:=0
def tw1914207620380716232:=0
def tw18253741575619983462:=0
def tw14422714186591684691:=0
def tw10855196536526874311:=0
def tw15306524782921793753:=0
def tw11881659933076700712:=0
def tw12525895854325707112:=0
def tw14548424851269132597:=0
def tw11681031696078501839:=0
def tw16707191920399241673:=0
def tw4159078202146554613:=0
def tw4403558510959349210:=0
def tw3291959272040710029:=0
def tw1788732441166113779:=0
def tw7047770587584950570:=0
def tw12597682733610519824:=0
def tw14989922658558604281:=0
def tw5224182361532118463:=0
def tw13196896167129723747:=0
def tw2164048170035659394:=0
def tw1157962838509721911:=0
def tw4050355574839365344:=0
def tw15026041509999533168:=0
def tw17021380322083091523:=0
def tw17948113422121697212:=0
def tw10222990531933095238:=0
def tw12914353340698423832:=0
def tw12301133316480150567:=0
def tw5465732086221583200:=0
def tw10771047458218200527:=0
def tw6493791055624880532:=0
def tw9606968385859694098:=0
def tw17089285553368131215:=0
def tw725891235997762769:=0
def tw9013088270531456403:=0
def tw10628652913600096330:=0
def tw14603702340010027565:=0
def tw13105738441347010614:=0
def tw4113000690563961798:=0
def tw10987121742956032149:=0
def tw14864512773309156237:=0
end PySem.W.Fast
set_option maxRecDepth 100000 in
set_option maxHeartbeats 0 in
theorem PySem.Challenge.cw_plainglass_k11_nodes_told_holds : PySem.Challenge.rw_plainglass_k11_nodes_told.Holds := by
 w_on;o_law;k_head;(case hw=>w_witness2)
 k_fill
 refine L2.plainglass_k11_nodes_told.walk (l:=PySem.Challenge.rw_plainglass_k11_nodes_told) rfl rfl (fun w h Y=>PySem.W.kIn_of Y) ?F
 case F=>
  intro w mg fa h KX G hmg
  refine' L2.plainglass_k11_nodes_told.all_mk KX G hmg (L2.E.cC ?a0 ?l0 ?c0 ?k0) (L2.E.cC ?a1 ?l1 ?c1 ?k1) (L2.E.cC ?a2 ?l2 ?c2 ?k2) (L2.E.cC ?a3 ?l3 ?c3 ?k3) (L2.E.cC ?a4 ?l4 ?c4 ?k4) (L2.E.cC ?a5 ?l5 ?c5 ?k5) (L2.E.cC ?a6 ?l6 ?c6 ?k6) (L2.E.cC ?a7 ?l7 ?c7 ?k7) (L2.E.cC ?a8 ?l8 ?c8 ?k8) (L2.E.cC ?a9 ?l9 ?c9 ?k9) (L2.E.cC ?a10 ?l10 ?c10 ?k10) (L2.E.cC ?a11 ?l11 ?c11 ?k11) (L2.E.cC ?a12 ?l12 ?c12 ?k12) (L2.E.cC ?a13 ?l13 ?c13 ?k13) (L2.E.cC ?a14 ?l14 ?c14 ?k14) (L2.E.cC ?a15 ?l15 ?c15 ?k15) (L2.E.cC ?a16 ?l16 ?c16 ?k16) (L2.E.cC ?a17 ?l17 ?c17 ?k17) (L2.E.cC ?a18 ?l18 ?c18 ?k18) (L2.E.cC ?a19 ?l19 ?c19 ?k19) (L2.E.cC ?a20 ?l20 ?c20 ?k20) (L2.E.cC ?a21 ?l21 ?c21 ?k21) (L2.E.cC ?a22 ?l22 ?c22 ?k22) (L2.E.cC ?a23 ?l23 ?c23 ?k23) (L2.E.cC ?a24 ?l24 ?c24 ?k24) (L2.E.cC ?a25 ?l25 ?c25 ?k25) (L2.E.cC ?a26 ?l26 ?c26 ?k26) (L2.E.cC ?a27 ?l27 ?c27 ?k27) (L2.E.cC ?a28 ?l28 ?c28 ?k28) (L2.E.cC ?a29 ?l29 ?c29 ?k29) (L2.E.cC ?a30 ?l30 ?c30 ?k30) (L2.E.cC ?a31 ?l31 ?c31 ?k31) (L2.E.cC ?a32 ?l32 ?c32 ?k32) (L2.E.cC ?a33 ?l33 ?c33 ?k33) (L2.E.cC ?a34 ?l34 ?c34 ?k34) (L2.E.cC ?a35 ?l35 ?c35 ?k35) (L2.E.cC ?a36 ?l36 ?c36 ?k36) (L2.E.cC ?a37 ?l37 ?c37 ?k37) (L2.E.cC ?a38 ?l38 ?c38 ?k38) (L2.E.cC ?a39 ?l39 ?c39 ?k39) (L2.E.cC ?a40 ?l40 ?c40 ?k40) (L2.E.cC ?a41 ?l41 ?c41 ?k41) (L2.E.cC ?a42 ?l42 ?c42 ?k42) (L2.E.cC ?a43 ?l43 ?c43 ?k43) (L2.E.cC ?a44 ?l44 ?c44 ?k44) (L2.E.cC ?a45 ?l45 ?c45 ?k45) ?a46 ?l46 ?c46 ?k46 ?a47 ?i47 ?l47 ?c47 ?k47 ?a48 ?i48 ?l48 ?c48 ?k48 ?a49 ?i49 ?l49 ?c49 ?k49 ?a50 ?i50 ?l50 ?c50 ?k50 ?a51 ?i51 ?l51 ?c51 ?k51 ?z0 ?z1 ?z2 ?z3 ?z4 ?z5 ?z6 ?z7 ?z8 ?z9 ?z10 ?ca0 ?pg0 ?hd0 ?po0 ?sa0 ?mk0 ?kc0 ?na0_0 ?va0 ?vl0 ?va1 ?va2 ?va3 ?va4 ?va5 ?va6 ?va7 ?va8 ?va9 ?va10 ?va11 ?va12 ?va13 ?va14 ?va15 ?va16 ?va17 ?va18 ?vl18 ?va19 ?vl19 ?wl19_0 ?wl19_1 ?wl19_2 ?vm19 ?va20 ?vl20 ?vm20 ?va21 ?va22 ?vl22 ?va23 ?vl23 ?va24 ?vl24 ?vm24
  (case ca0|a0|l0|c0|k0|a1|l1|c1|k1|a2|l2|c2|k2|a3|l3|c3|k3|a4|l4|c4|k4|a5|l5|c5|k5|a6|l6|c6|k6|a7|l7|c7|k7|a8|l8|c8|k8|a9|l9|c9|k9|a10|l10|c10|k10|a11|l11|c11|k11|a12|l12|c12|k12|a13|l13|c13|k13|a14|l14|c14|k14|a15|l15|c15|k15|a16|l16|c16|k16|a17|l17|c17|k17|a18|l18|c18|k18|a19|l19|c19|k19|a20|l20|c20|k20|a21|l21|c21|k21|a22|l22|c22|k22|a23|l23|c23|k23|a24|l24|c24|k24|a25|l25|c25|k25|a26|l26|c26|k26|a27|l27|c27|k27|a28|l28|c28|k28|a29|l29|c29|k29|a30|l30|c30|k30|a31|l31|c31|k31|a32|l32|c32|k32|a33|l33|c33|k33|a34|l34|c34|k34|a35|l35|c35|k35|a36|l36|c36|k36|a37|l37|c37|k37|a38|l38|c38|k38|a39|l39|c39|k39|a40|l40|c40|k40|a41|l41|c41|k41|a42|l42|c42|k42|a43|l43|c43|k43|a44|l44|c44|k44|a45|l45|c45|k45|a46|l46|c46|k46|a47|i47|l47|c47|k47|a48|i48|l48|c48|k48|a49|i49|l49|c49|k49|a50|i50|l50|c50|k50|a51|i51|l51|c51|k51|z0|z1|z2|z3|z4|z5|z6|z7|z8|z9|z10|pg0|hd0|po0|sa0|mk0|kc0|na0_0|va0|vl0|va1|va2|va3|va4|va5|va6|va7|va8|va9|va10|va11|va12|va13|va14|va15|va16|va17|va18|vl18|va19|vl19|wl19_0|wl19_1|wl19_2=>k_is)
  (case vm19=>first|decide|rfl)
  (case va20|vl20=>k_is)
  (case vm20=>first|decide|rfl)
  (case va21|va22|vl22|va23|vl23|va24|vl24=>k_is)
  (case vm24=>first|decide|rfl)
