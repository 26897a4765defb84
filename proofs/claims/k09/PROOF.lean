import PyProof.Rows.All
import Wide.All
import OpenK.AllK
import Wide.FinOn
import Lean
import PyProof.EqAt
import PyProof.EqKinds
import PyProof.TupleCall
import PySem.Challenge.RW_plainglass_k09_endings
set_option Elab.async false
set_option linter.all false
set_option compiler.extract_closed false
set_option maxRecDepth 100000
namespace L2
open PySem PySem.Spec PyProof.Rows
abbrev Key:=Sum Int Str
def xF:Key->Value->Bool
 |.inl k,v=>Value.isInt k v
 |.inr x,v=>Value.isStrOf x v
def NB(w:World):Key->Int
 |.inl k=>hashInt k
 |.inr x=>hashStr w x
theorem fe:∀{k:Key} {v:Value},xF k v=true->(∃ i t,k=Sum.inl i /\ v=Value.int i t) \/ (∃ x t,k=Sum.inr x /\ v=Value.str x t)
 | .inl i,v,h=>by
   obtain⟨t,e⟩:=Value.isInt_shape (k:=i) (v:=v) h;exact .inl ⟨i,t,rfl,e⟩
 | .inr x,v,h=>by
   obtain⟨t,e⟩:=Value.isStrOf_shape (x:=x) (v:=v) h;exact .inr ⟨x,t,rfl,e⟩
theorem CY(i:Int)(t:Tok):xF (.inl i) (.int i t)=true:=by simp[xF,Value.isInt]
theorem DK(x:Str)(t:Tok):xF (.inr x) (.str x t)=true:=by simp[xF,Value.isStrOf]
theorem KI(a b:Int):decide ((Sum.inl a:Key)=Sum.inl b)=(a==b):=by
 by_cases e:a=b
 . subst e;simp
 . have h:¬ (Sum.inl a:Key)=Sum.inl b:=fun q=>e (Sum.inl.inj q)
   rw[decide_eq_false h]
   exact(beq_eq_false_iff_ne.mpr e).symm
theorem JQ(a b:Str):decide ((Sum.inr a:Key)=Sum.inr b)=decide (a=b):=by
 by_cases e:a=b
 . subst e;simp
 . have h:¬ (Sum.inr a:Key)=Sum.inr b:=fun q=>e (Sum.inr.inj q)
   rw[decide_eq_false h,decide_eq_false e]
theorem Kr(a:Int)(b:Str):decide ((Sum.inl a:Key)=Sum.inr b)=false:=decide_eq_false (fun q=>nomatch q)
theorem Lp(a:Str)(b:Int):decide ((Sum.inr a:Key)=Sum.inl b)=false:=decide_eq_false (fun q=>nomatch q)
def fP(prog:Program)(w:World):PySem.KeyKind prog w Key where
 is:=xF
 hash:=NB w
 inj:=fun v a b ha hb=>by
  rcases fe ha with⟨i,t,rfl,rfl⟩|⟨x,t,rfl,rfl⟩
  . rcases fe hb with⟨j,u,rfl,e⟩|⟨y,u,rfl,e⟩
    . injection e with e1 _;rw[e1]
    . exact nomatch e
  . rcases fe hb with⟨j,u,rfl,e⟩|⟨y,u,rfl,e⟩
    . exact nomatch e
    . injection e with e1 _;rw[e1]
 byValue:=fun k v h=>by
  rcases fe h with⟨i,t,rfl,rfl⟩|⟨x,t,rfl,rfl⟩<;>rfl
 pyHash:=fun hv h=>by
  rcases fe hv with⟨i,t,rfl,rfl⟩|⟨x,t,rfl,rfl⟩
  . exact wpAny_pyHash_int h
  . exact wpAny_pyHash_str h
 eqBool:=fun hu hv h=>by
  rcases fe hu with⟨i,t,rfl,rfl⟩|⟨x,t,rfl,rfl⟩
  . rcases fe hv with⟨j,u,rfl,rfl⟩|⟨y,u,rfl,rfl⟩
    . rw[KI]at h;exact wpAny_eqBool_int h
    . rw[Kr]at h;exact SeqAt.EqAt.int_str i t y u _ _ _ _ h
  . rcases fe hv with⟨j,u,rfl,rfl⟩|⟨y,u,rfl,rfl⟩
    . rw[Lp]at h;exact SeqAt.EqAt.str_int x t j u _ _ _ _ h
    . rw[JQ]at h;exact wpAny_eqBool_str h
 «strs»:=fun k x t v h=>by
  rcases fe h with⟨i,u,rfl,e⟩|⟨y,u,rfl,e⟩
  . exact nomatch e
  . injection e with e1 _
    subst e1
    cases v<;>rfl
theorem zD(prog:Program)(w:World)(i:Int)(t:Tok):(fP prog w).is (.inl i) (.int i t)=true:=CY i t
theorem zr(prog:Program)(w:World)(x:Str)(t:Tok):(fP prog w).is (.inr x) (.str x t)=true:=DK x t
inductive V where
 |non|bl (b:Bool)|int (i:Int)|str (x:Str)|byt (b:Array UInt8)|flt (b:UInt64)|ref (a:Addr)|ty (n:String)
 deriving DecidableEq
def RelV:V->Value->Prop
 |.non,u=>u=Value.none
 |.bl b,u=>u=Value.bool b
 |.int i,u=>∃ t,u=Value.int i t
 |.str x,u=>∃ t,u=Value.str x t
 |.byt b,u=>∃ t,u=Value.bytes b t
 |.flt b,u=>∃ t,u=Value.float b t
 |.ref a,u=>u=Value.ref a
 |.ty n,u=>u=Value.type n
abbrev Vals:List V->List Value->Prop:=Paired RelV
theorem Vals.length{xs:List V}{us:List Value}(r:Vals xs us):xs.length=us.length:=Paired.length r
theorem Vals.get:∀{xs:List V} {us:List Value} {i:Nat} {x:V},Vals xs us->xs[i]?=some x->∃ u,us[i]?=some u /\ RelV x u
 |_,_,_,_,.nil,e=>by simp at e
 |_,_,0,_,.cons r _,e=>by simp at e;subst e;exact⟨_,rfl,r⟩
 | _,_,i+1,x,.cons _ t,e=>by
   obtain⟨u,h1,h2⟩:=Vals.get (i:=i) (x:=x) t (by simpa using e)
   exact⟨u,by simpa using h1,h2⟩
theorem Vals.set{x:V}{u:Value}(r:RelV x u):∀{xs:List V} {us:List Value} (i:Nat),Vals xs us->Vals (xs.set i x) (us.set i u)
 |_,_,_,.nil=>.nil
 |_,_,0,.cons _ t=>.cons r t
 |_,_,i+1,.cons q t=>.cons q (Vals.set r i t)
theorem Vals.append:∀{xs ys:List V} {us ws:List Value},Vals xs us->Vals ys ws->Vals (xs++ys) (us++ws)
 |_,_,_,_,.nil,s=>s
 |_,_,_,_,.cons r t,s=>.cons r (Vals.append t s)
theorem Vals.take:∀{xs:List V} {us:List Value} (n:Nat),Vals xs us->Vals (xs.take n) (us.take n)
 |_,_,0,_=>.nil
 |_,_,_+1,.nil=>.nil
 |_,_,n+1,.cons r t=>.cons r (Vals.take n t)
theorem Vals.drop:∀{xs:List V} {us:List Value} (n:Nat),Vals xs us->Vals (xs.drop n) (us.drop n)
 |_,_,0,r=>r
 |_,_,_+1,.nil=>.nil
 |_,_,n+1,.cons _ t=>Vals.drop n t
def bx:Option V->Option Value->Prop
 |some v,some u=>RelV v u
 |none,none=>True
 |_,_=>False
def KV{κ:Type}:List (κ×V)->List (κ×Value)->Prop:=Paired fun (p:κ×V) (q:κ×Value)=>p.1=q.1 /\ RelV p.2 q.2
def kV:Key->V
 |.inl i=>.int i
 |.inr x=>.str x
inductive HO where
  |lst (xs:List V)
  |tup (xs:List V)
  |dK (kvs:List (Key×V))|dT (kvs:List (List Key×V))
  |set (S:Int->Bool) (n:Nat)
  |ins (C dx:Addr) (fs:List (Str×V))
  |own (x:Addr)
  |xd (fs:List (Str×V))
  |met (f x:Addr)
  |rng (lo hi:Int)
  |frz (o:Obj) (u:HO)
  |tbl (ps:Array Value)
  |ext (φ:Heap->Prop)
abbrev Hp:=Addr->Option HO
def upd(H:Hp)(a:Addr)(o:HO):Hp:=fun b=>if b=a then some o else H b
theorem bQ{H:Hp}{a:Addr}{o:HO}:upd H a o a=some o:=by unfold upd;rw[if_pos rfl]
theorem bL{H:Hp}{a b:Addr}{o:HO}(h:b≠a):upd H a o b=H b:=by unfold upd;rw[if_neg h]
theorem Gx{H:Hp}{a:Addr}{o u:HO}:upd (upd H a o) a u=upd H a u:=by
 funext b;unfold upd;split<;>rfl
theorem eO{H:Hp}{a b:Addr}{o:HO}(h:H a=some o)(h':H b=none):a≠b:=by
 intro e;subst e;rw[h]at h';cases h'
section
variable(P:Program)(w:World)
def gq(H:Hp)(h:Heap)(a:Addr):HO->Prop
 |.lst xs=>xs.length<=sizeLine /\ ∃(its:List Value) (n:Nat),Vals xs its /\ h.get? a=some { cls:=.type "list",data:=.seq its.toArray n }
 |.tup xs=>xs.length<=sizeLine /\ ∃ its:List Value,Vals xs its /\ IsTup h a its.toArray
 |.dK kvs=>kvs.length<=sizeLine /\ (a==sysModules)=false /\ ∃ vs,KV kvs vs /\ h.DictOf (fP P w) a vs
 | .dT kvs=>kvs.length <= sizeLine /\ (a == sysModules) = false /\ ∃ xs:List (List Key × Addr × Value),
    Paired (fun (p:List Key×V) (q:List Key×Addr×Value)=>p.1=q.1 /\ H q.2.1=some (.tup (p.1.map kV)) /\ RelV p.2 q.2.2) kvs xs /\
    ∃ o es ep,h.get? a=some o /\ o.ExactDict /\ o.data=.dict es ep /\ es.toList=xs.map (entryOfKey (tupleKind (fP P w))) /\ (xs.map (·.1)).Nodup
 |.set S n=>h.SetOf (intKind P w) a S n
 | .ins C dx fs=>H dx = some (.own a) /\ fs.length <= 1000 /\ dx ≠ a /\ h.get? a = some (PySem.W.instObj C dx) /\
    ∃ mA,h.Ns1 dx mA /\ (∀ f,bx (fs.lookup f) (mA f)) /\ PySem.Within mA (fs.map (·.1))
 |.own _=>∃ o,h.get? a=some o
 |.xd fs=>∃ mA,h.Ns1 a mA /\ ∀ f,bx (fs.lookup f) (mA f)
 |.rng lo hi=>∃ t u v,h.get? a=some { cls:=.type "range",data:=.fields #[.int lo t,.int hi u,.int 1 v] }
 |.frz o u=>h.get? a=some o /\ gq H h a u
 |.tbl ps=>h.get? a=some { cls:=.none,data:=.fields ps }
 |.met f x=>h.get? a=some (PySem.W.methodObj (.ref f) (.ref x))
 |.ext φ=>φ h /\ (∃ o,h.get? a=some o) /\ ∀ h1 h2:Heap,φ h1->(∀ o,h1.get? a=some o->h2.get? a=some o)->φ h2
def HOk(H:Hp)(h:Heap):Prop:=∀ a o,H a=some o->gq P w H h a o
end
section
variable{P:Program}{w:World}{H H':Hp}{h h':Heap}{a:Addr}{o:HO}
theorem gq.lt(x:gq P w H h a o):a<h.objs.size:=by
 cases o with
 |lst xs=>obtain⟨_,_,_,_,e⟩:=x;exact Heap.lt_size e
 |tup xs=>obtain⟨_,_,_,p⟩:=x;exact p.lt
 |dK kvs=>obtain⟨_,_,_,_,o,_,_,e,_⟩:=x;exact Heap.lt_size e
 |dT kvs=>obtain⟨_,_,_,_,o,_,_,e,_⟩:=x;exact Heap.lt_size e
 |set S n=>obtain⟨o,_,_,_,e,_⟩:=x;exact Heap.lt_size e
 |ins C dx fs=>obtain⟨_,_,_,e,_⟩:=x;exact Heap.lt_size e
 |own y=>obtain⟨_,e⟩:=x;exact Heap.lt_size e
 |xd fs=>obtain⟨_,⟨_,_,_,e,_⟩,_⟩:=x;exact Heap.lt_size e
 |rng lo hi=>obtain⟨_,_,_,e⟩:=x;exact Heap.lt_size e
 |frz ob u=>obtain⟨e,_⟩:=x;exact Heap.lt_size e
 |tbl ps=>exact Heap.lt_size (show h.get? a=some _ from x)
 |met f y=>exact Heap.lt_size (show h.get? a=some _ from x)
 |ext φ=>obtain⟨_,⟨_,e⟩,_⟩:=x;exact Heap.lt_size e
theorem Paired.Jo{α β:Type}{F G:α->β->Prop}:∀{l₁:List α} {l₂:List β},Paired F l₁ l₂->(∀ a b,F a b->G a b)->Paired G l₁ l₂
 |_,_,.nil,_=>.nil
 |_,_,.cons r t,f=>.cons (f _ _ r) (Paired.Jo t f)
theorem gq.uD(x:gq P w H h a o)(k:∀ b u,(b=a \/ H b=some (.own a))->h.get? b=some u->h'.get? b=some u)
  (ho:∀ b,H b=some (.own a)->H' b=some (.own a)) (ht:∀ b xs,H b=some (.tup xs)->H' b=some (.tup xs)):gq P w H' h' a o:=by
 induction o with
 |lst xs=>obtain⟨z,its,n,r,e⟩:=x;exact⟨z,its,n,r,k _ _ (.inl rfl) e⟩
 |tup xs=>obtain⟨z,its,r,ob,e,c⟩:=x;exact⟨z,its,r,ob,k _ _ (.inl rfl) e,c⟩
 |dK kvs=>obtain⟨z,y,vs,r,ob,es,ep,e,c⟩:=x;exact⟨z,y,vs,r,ob,es,ep,k _ _ (.inl rfl) e,c⟩
 | dT kvs=>
   obtain⟨z,y,xs,r,ob,es,ep,e,c⟩:=x
   exact⟨z,y,xs,Paired.Jo r fun p q z=>⟨z.1,ht _ _ z.2.1,z.2.2⟩,ob,es,ep,k _ _ (.inl rfl) e,c⟩
 |set S n=>obtain⟨ob,es,ep,t,e,c⟩:=x;exact⟨ob,es,ep,t,k _ _ (.inl rfl) e,c⟩
 | ins C dx fs=>
   obtain⟨d,z,ne,e,mA,⟨od,es,ep,e2,c⟩,r⟩:=x
   exact⟨ho _ d,z,ne,k _ _ (.inl rfl) e,mA,⟨od,es,ep,k _ _ (.inr d) e2,c⟩,r⟩
 |own y=>obtain⟨ob,e⟩:=x;exact⟨ob,k _ _ (.inl rfl) e⟩
 |xd fs=>obtain⟨mA,⟨od,es,ep,e,c⟩,r⟩:=x;exact⟨mA,⟨od,es,ep,k _ _ (.inl rfl) e,c⟩,r⟩
 |rng lo hi=>obtain⟨t,u,v,e⟩:=x;exact⟨t,u,v,k _ _ (.inl rfl) e⟩
 |frz ob u ih=>obtain⟨e,q⟩:=x;exact⟨k _ _ (.inl rfl) e,ih q⟩
 | tbl ps=>
   have e:h.get? a=some { cls:=.none,data:=.fields ps }:=x
   show h'.get? a=some { cls:=.none,data:=.fields ps };exact k a _ (.inl rfl) e
 | met f y=>
   have e:h.get? a=some (PySem.W.methodObj (.ref f) (.ref y)):=x
   show h'.get? a=some (PySem.W.methodObj (.ref f) (.ref y));exact k a _ (.inl rfl) e
 |ext φ=>obtain⟨p,⟨o,e⟩,st⟩:=x;exact⟨st _ _ p fun o q=>k _ _ (.inl rfl) q,⟨o,k _ _ (.inl rfl) e⟩,st⟩
theorem HOk.lt(x:HOk P w H h)(e:H a=some o):a<h.objs.size:=(x a o e).lt
theorem HOk.fresh(x:HOk P w H h)(e:h.objs.size<=a):H a=none:=by
 cases q:H a with
 |none=>rfl
 |some u=>exact absurd (Nat.lt_of_lt_of_le (x.lt q) e) (Nat.lt_irrefl _)
theorem HOk.kept(x:HOk P w H h)(k:∀ b u,h.get? b=some u->h'.get? b=some u):HOk P w H h':=fun a o e=>
 (x a o e).uD (fun b u _ q=>k b u q) (fun _ q=>q) fun _ _ q=>q
theorem HOk.laid(x:HOk P w H h)(k:∀ b u,h.get? b=some u->h'.get? b=some u)(hp:h.objs.size<=a)(new:gq P w (upd H a o) h' a o):HOk P w (upd H a o) h':=fun b u e=>by
 have hn:=x.fresh hp
 by_cases hb:b=a
 . subst hb;rw[bQ]at e;cases e;exact new
 . rw[bL hb]at e
   exact(x b u e).uD (fun c v _ q=>k c v q) (fun c q=>by rw[bL (eO q hn)];exact q) fun c xs q=>by rw[bL (eO q hn)];exact q
end
def Rd(H:Hp)(a:Addr)(u:HO):Prop:=H a=some u \/ ∃ o,H a=some (.frz o u)
theorem Rd.ok{P:Program}{w:World}{H:Hp}{h:Heap}{a:Addr}{u:HO}(r:Rd H a u)(x:HOk P w H h):gq P w H h a u:=by
 rcases r with r|⟨o,r⟩
 . exact x a u r
 . obtain⟨_,q⟩:=x a _ r;exact q
def Mut:Option HO->Prop
 |some (.lst _)=>True
 |some (.dK _)=>True
 |some (.dT _)=>True
 |some (.set _ _)=>True
 |some (.ins _ _ _)=>True
 |some (.ext _)=>True
 |_=>False
section
variable{P:Program}{w:World}{H:Hp}{h h':Heap}{x e:Addr}{o':HO}
theorem HOk.write(ok:HOk P w H h)(mu:Mut (H x))(he:e=x \/ H e=some (.own x))(k:∀ b u,b≠e->h.get? b=some u->h'.get? b=some u)(heo:∃ u,h'.get? e=some u)
  (new:gq P w (upd H x o') h' x o'):HOk P w (upd H x o') h':=fun b u q=>by
 have nown:∀ c y,H c=some (.own y)->c≠x:=fun c y r z=>by subst z;rw[r]at mu;exact mu
 have ntup:∀ c xs,H c=some (.tup xs)->c≠x:=fun c xs r z=>by subst z;rw[r]at mu;exact mu
 by_cases hb:b=x
 . subst hb;rw[bQ]at q;cases q;exact new
 . rw[bL hb]at q
   by_cases hbe:b=e
   . have q':H b = some (.own x):=by
      rcases he with z|z
      . exact absurd (hbe.trans z) hb
      . rw[hbe];exact z
     rw[q]at q';cases q';obtain⟨v,hv⟩:=heo
     exact⟨v,by rw[hbe];exact hv⟩
   . refine(ok b u q).uD (fun c v hc r=>k c v ?_ r) (fun c r=>by rw[bL (nown c b r)];exact r) fun c xs r=>by rw[bL (ntup c xs r)];exact r
     rcases hc with rfl|hc
     . exact hbe
     . rintro rfl
       rcases he with z|z
       . exact nown c b hc z
       . rw[hc]at z;cases z;exact hb rfl
end
structure Un(fs ex:List Addr)(H H':Hp)(h h':Heap):Prop where
 keep:∀ b o,h.get? b=some o->H b=none->b∉fs->b∉ex->h'.get? b=some o
 slot:∀ b o,h.get? b=some o->H b=none->b∈fs->b∉ex->∃ sl,h'.get? b=some { o with slots:=sl }
 free:∀ b o,h.get? b=some o->H b=none->b∉ex->H' b=none
 there:∀ b o,h.get? b=some o->b∉ex->∃ o',h'.get? b=some o'
 tups:∀ b xs,H b=some (.tup xs)->H' b=some (.tup xs)
 frzs:∀ b o u,H b=some (.frz o u)->H' b=some (.frz o u)
 tbls:∀ b ps,H b=some (.tbl ps)->∃ more,H' b=some (.tbl (ps++more))
section
variable{fs fs' ex ex':List Addr}{H H1 H2:Hp}{h h1 h2 h':Heap}{a x e:Addr}{o:HO}
theorem Un.any(u:Un fs ex H H1 h h1){b:Addr}{ob:Obj}(q:h.get? b=some ob)(n:H b=none)(hx:b∉ex):∃ sl,h1.get? b=some { ob with slots:=sl }:=by
 by_cases hb:b∈fs
 . exact u.slot b ob q n hb hx
 . exact⟨ob.slots,u.keep b ob q n hb hx⟩
theorem Un.kept(k:∀ b u,h.get? b=some u->h'.get? b=some u):Un fs ex H H h h':=
 ⟨fun b ob q _ _ _=>k b ob q,fun b ob q _ _ _=>⟨ob.slots,k b ob q⟩,fun _ _ _ n _=>n,fun b ob q _=>⟨ob,k b ob q⟩,fun _ _ q=>q,fun _ _ _ q=>q,fun _ ps q=>⟨#[],by rw[q];simp⟩⟩
theorem Un.refl:Un fs ex H H h h:=Un.kept fun _ _ q=>q
theorem Un.laid(k:∀ b u,h.get? b=some u->h'.get? b=some u)(hp:h.objs.size<=a)(hn:H a=none):Un fs ex H (upd H a o) h h' where
 keep:=fun b u q _ _ _=>k b u q
 slot:=fun b u q _ _ _=>⟨u.slots,k b u q⟩
 free:=fun b u q n _=>by rw[bL (Nat.ne_of_lt (Nat.lt_of_lt_of_le (Heap.lt_size q) hp))];exact n
 there:=fun b u q _=>⟨u,k b u q⟩
 tups:=fun b xs q=>by rw[bL (eO q hn)];exact q
 frzs:=fun b u xs q=>by rw[bL (eO q hn)];exact q
 tbls:=fun b ps q=>⟨#[],by rw[bL (eO q hn),q];simp⟩
theorem Un.write(mu:Mut (H x))(he:e=x \/ H e=some (.own x))(k:∀ b u,b≠e->h.get? b=some u->h'.get? b=some u)(heo:∃ u,h'.get? e=some u):Un fs ex H (upd H x o) h h':=by
 have hx:∀ b,H b=none->b≠x:=fun b n z=>by subst z;rw[n]at mu;exact mu
 have hb:∀ b,H b=none->b≠e:=fun b n z=>by
  subst z
  rcases he with r|r
  . exact hx b n r
  . rw[n]at r;cases r
 have hm:∀ b u,H b=some u->¬ Mut (some u)->b≠x:=fun b u q nm z=>by subst z;rw[q]at mu;exact nm mu
 refine⟨fun b u q n _ _=>k b u (hb b n) q,fun b u q n _ _=>⟨u.slots,k b u (hb b n) q⟩,fun b u q n _=>by rw[bL (hx b n)];exact n,fun b u q _=>?_,
  fun b xs q=>by rw[bL (hm b _ q fun z=>z)];exact q,fun b u xs q=>by rw[bL (hm b _ q fun z=>z)];exact q,fun b ps q=>⟨#[],by rw[bL (hm b _ q fun z=>z),q];simp⟩⟩
 by_cases hbe:b=e
 . subst hbe;exact heo
 . exact⟨u,k b u hbe q⟩
end
def trk(h:Heap)(H:Hp):List Addr:=(List.range h.objs.size).filter fun a=>(H a).isSome
def xJ(h:Heap)(H:Hp):Heap:=PySem.W.hideAll h (trk h H)
theorem CJ(h:Heap)(H:Hp):(xJ h H).objs.size=h.objs.size:=PySem.W.hideAll_size _ _
theorem D8{h:Heap}{H:Hp}{b:Addr}{o:Obj}(e:h.get? b=some o)(n:H b=none):(xJ h H).get? b=some o:=
 PySem.W.hideAll_get _ e fun hm=>by
  have q:(H b).isSome=true:=(List.mem_filter.mp hm).2
  rw[n]at q;simp at q
theorem G8{h:Heap}{H:Hp}{b:Addr}{o:Obj}(e:(xJ h H).get? b=some o):h.get? b=some o /\ H b=none:=by
 have e':h.get? b=some o:=PySem.W.of_hideAll (trk h H) e
 refine⟨e',?_⟩
 cases q:H b with
 |none=>rfl
 | some x=>
   have hm:b∈trk h H:=List.mem_filter.mpr ⟨List.mem_range.mpr (Heap.lt_size e'),by simp[q]⟩
   have z:(xJ h H).get? b=none:=PySem.W.hideAll_none (trk h H) hm
   rw[z]at e;cases e
def HS(g h:Heap)(L:Addr):List (Addr×Obj):=(List.range h.objs.size).filterMap fun a=>if a=L \/ (g.get? a).isSome=true then none else(h.get? a).map fun o=>(a,o)
def rest(g h:Heap)(L d:Addr):List (Addr×Obj):=(HS g h L).filter fun p=>decide (p.1≠d)
structure Mod(K:PySem.W.Frag)(mg:Str->Option Value)(base:Heap):Prop where
 kin:K.In base
 glob:base.Ns mainGlobals mg
 blt:∃ mb,base.Ns builtinsNs mb /\ ∀ x:Str,x ≠ "__name__" -> mb x=bootBuiltins x
 nolimit:base.NoLimit
structure Cx where
 prog:Program
 w:World
 K:PySem.W.Frag
 mg:Str->Option Value
 base:Heap
 A:Around
 N:List Str
 s₀:Shared
 H₀:Hp
 env:Env
 outer:List Env
 stack:List Env
 ex:List Addr
 fn:Str->Bool
 calm:Bool
 pn:List (Addr×Obj)
 xe:Value->Shared->Prop
def frs(l:List Env):List Addr:=l.filterMap (·.frame)
abbrev Cx.fs(X:Cx):List Addr:=frs X.outer
def Vis(sc:Scope)(x:Str):Prop:=sc.names.lookup x=some .local \/ sc.names.lookup x=some .cell \/ sc.names.lookup x=some .free
def Loc(sc:Scope)(x:Str):Prop:=sc.names.lookup x=some .local \/ sc.names.lookup x=some .cell
def Look(env:Env)(h:Heap)(m:Str->Option Value)(x:Str)(u:Value):Prop:=
 (env.kindOf x=some .local /\ m x=some u) \/ ((env.kindOf x=some .cell \/ env.kindOf x=some .free) /\ ∃ c,env.cells.lookup x=some c /\ h.IsCell c (some u))
structure Cx.Ok(X:Cx):Prop where
 mod:Mod X.K X.mg X.base
 kind:X.env.scope.kind=.function
 glob:X.env.globals=mainGlobals
 blt:X.env.builtins=builtinsNs
 above:X.s₀.heap.objs.size<=X.env.locals
 inj:∀ x y c,X.env.cells.lookup x=some c->X.env.cells.lookup y=some c->x=y
 has:∀ x,(X.env.kindOf x=some .cell \/ X.env.kindOf x=some .free)->∃ c,X.env.cells.lookup x=some c
 cab:∀ x c,X.fn x=true->X.env.cells.lookup x=some c->X.s₀.heap.objs.size<=c
 hd:X.calm=true->X.A.handled=none
 frames:X.A.frames=some X.stack
 stk:X.stack=X.outer \/ (X.stack=X.env ::X.outer /\ X.env.frame=some X.env.locals)
 exf:∀ b∈X.ex,b≠X.env.locals /\ ∀ x c,X.env.cells.lookup x=some c->c≠b
 bs:∀ b o,X.base.get? b=some o->X.s₀.heap.get? b=some o /\ X.H₀ b=none
 bsz:X.base.objs.size<=X.s₀.heap.objs.size
 noex:∀ b o,X.base.get? b=some o->b∉X.ex
 exfs:∀ b∈X.ex,b∉X.fs
 wH:X.s₀.heap.FunFrames X.base X.outer
 frf:∀ b∈X.fs,X.H₀ b=none
structure Inv(X:Cx)(pins:List (Addr×Obj))(σ:List (Option V))(H:Hp)(s:Shared):Prop where
 ok:X.Ok
 os:s.os=X.s₀.os
 bare:AllBare s.gens
 base:Un X.fs X.ex X.H₀ H X.s₀.heap s.heap
 loc:∃ m,s.heap.Ns X.env.locals m /\ ∀(i:Nat) (x:Str) (v:V),X.N[i]?=some x->σ[i]?=some (some v)->Vis X.env.scope x->∃ u,RelV v u /\ Look X.env s.heap m x u
 cell:∀ x c,X.env.cells.lookup x=some c->∃ v,s.heap.IsCell c v
 free:H X.env.locals=none
 freeC:∀ x c,X.env.cells.lookup x=some c->H c=none
 pin:∀ p∈X.pn++pins,s.heap.get? p.1=some p.2 /\ H p.1=none /\ p.1≠X.env.locals /\ p.1∉X.fs /\ ∀ v,p.2.data≠.cell v
 hok:HOk X.prog X.w H s.heap
 len:σ.length=X.N.length
section
variable{X:Cx}{pins:List (Addr×Obj)}{σ:List (Option V)}{H H':Hp}{s:Shared}{h':Heap}
theorem Cx.Ok.NJ(ok:X.Ok){b:Addr}{o:Obj}(e:X.base.get? b=some o):b∉X.fs:=fun hb=>by
 have:=(ok.wH.mem hb).1;rw[e]at this;cases this
theorem Inv.bs(I:Inv X pins σ H s):∀ b o,X.base.get? b=some o->s.heap.get? b=some o /\ H b=none:=fun b o e=>
 ⟨I.base.keep b o (I.ok.bs b o e).1 (I.ok.bs b o e).2 (I.ok.NJ e) (I.ok.noex b o e),I.base.free b o (I.ok.bs b o e).1 (I.ok.bs b o e).2 (I.ok.noex b o e)⟩
theorem Inv.bk(I:Inv X pins σ H s):∀ b o,X.base.get? b=some o->s.heap.get? b=some o:=fun b o e=>(I.bs b o e).1
theorem Inv.mod(I:Inv X pins σ H s):Mod X.K X.mg X.base:=I.ok.mod
theorem Inv.kIn(I:Inv X pins σ H s):X.K.In s.heap:=I.ok.mod.kin.keeps I.bk
theorem Inv.nolimit(I:Inv X pins σ H s):s.heap.NoLimit:=I.ok.mod.nolimit.keeps I.bk
theorem Inv.lt(I:Inv X pins σ H s):X.env.locals<s.heap.objs.size:=let ⟨_,hn,_⟩:=I.loc;hn.lt
theorem Inv.sz(I:Inv X pins σ H s):X.s₀.heap.objs.size<=s.heap.objs.size:=Nat.le_trans I.ok.above (Nat.le_of_lt I.lt)
theorem Inv.NR(I:Inv X pins σ H s){a:Addr}(h:s.heap.objs.size<=a):a∉X.fs:=fun hb=>by
 obtain⟨_,o,ho,_⟩:=I.ok.wH.mem hb;exact absurd (Nat.lt_of_lt_of_le (Heap.lt_size ho) (Nat.le_trans I.sz h)) (Nat.lt_irrefl _)
theorem Inv.cne(I:Inv X pins σ H s):∀ x c,X.env.cells.lookup x=some c->c≠X.env.locals:=fun x c e z=>by
 obtain⟨v,o,ho,hd⟩:=I.cell x c e;obtain⟨m,⟨o',es,ep,ho',hd',_⟩,_⟩:=I.loc;rw[z,ho']at ho;cases ho;rw[hd']at hd;cases hd
theorem Inv.wH(I:Inv X pins σ H s):s.heap.FunFrames X.base X.outer:=by
 have all:∀(l:List Env),(∀ b∈frs l,b∈X.fs)->X.s₀.heap.FunFrames X.base l->s.heap.FunFrames X.base l:=by
  intro l
  induction l with
  |nil=>intro _ _;trivial
  | cons env r ih=>
    intro hs hl;obtain⟨hk,⟨L,o,hf,hn,ho,hd⟩,hr⟩:=hl
    have hL:L∈X.fs:=hs L (by unfold frs;rw[List.filterMap_cons,hf];exact List.mem_cons_self)
    obtain⟨sl,e⟩:=I.base.slot L o ho (I.ok.frf L hL) hL fun z=>I.ok.exfs L z hL
    exact⟨hk,⟨L,_,hf,hn,e,hd⟩,ih (fun b hb=>hs b (by unfold frs;rw[List.filterMap_cons,hf];exact List.mem_cons_of_mem _ hb)) hr⟩
 exact all X.outer (fun _ hb=>hb) I.ok.wH
theorem Inv.stack(I:Inv X pins σ H s):s.heap.FunFrames X.base X.stack:=by
 rcases I.ok.stk with e|⟨e,hf⟩
 . rw[e];exact I.wH
 . rw[e];obtain⟨m,hn,_⟩:=I.loc;refine .cons (by rw[I.ok.kind];decide) hf hn ?_ I.wH;exact Heap.get?_none_of_le (Nat.le_trans I.ok.bsz I.ok.above)
theorem Inv.Bu(I:Inv X pins σ H s):∀ b∈frs X.stack,b∈X.env.locals ::X.fs:=fun b hb=>by
 rcases I.ok.stk with e|⟨e,hf⟩
 . rw[e]at hb;exact List.mem_cons_of_mem _ hb
 . rw[e]at hb;unfold frs at hb;rw[List.filterMap_cons,hf]at hb;exact hb
theorem Inv.yi(I:Inv X pins σ H s):∀ b∈frs X.stack,H b=none:=fun b hb=>by
 rcases List.mem_cons.mp (I.Bu b hb)with e|hb
 . rw[e];exact I.free
 . obtain⟨_,o,ho,_⟩:=I.ok.wH.mem hb
   exact I.base.free b o ho (I.ok.frf b hb) fun z=>I.ok.exfs b z hb
theorem Inv.step{g':Array GenState}{t':Nat}{d':Drawn}{ch:List Addr}(I:Inv X pins σ H s)
  (hch:∀ b∈ch,(b∈X.ex \/ X.s₀.heap.objs.size<=b) /\ b≠X.env.locals /\ (∀ x c,X.env.cells.lookup x=some c->c≠b) /\ ∀ p∈X.pn++pins,p.1≠b)
  (keep:∀ b o,b≠X.env.locals->b∉X.fs->b∉ch->s.heap.get? b=some o->H b=none->h'.get? b=some o)
  (slot:∀ b o,b≠X.env.locals->b∈X.fs->b∉ch->s.heap.get? b=some o->H b=none->∃ sl,h'.get? b=some { o with slots:=sl }) (free:∀ b o,b∉ch->s.heap.get? b=some o->H b=none->H' b=none)
  (there:∀ b o,b∉ch->s.heap.get? b=some o->∃ o',h'.get? b=some o')
  (tups:∀ b xs,H b=some (.tup xs)->H' b=some (.tup xs)) (frzs:∀ b o u,H b=some (.frz o u)->H' b=some (.frz o u)) (tbls:∀ b ps,H b=some (.tbl ps)->∃ more,H' b=some (.tbl (ps++more)))
  (ns:∀ m,s.heap.Ns X.env.locals m->h'.Ns X.env.locals m) (hok:HOk X.prog X.w H' h') (hg:AllBare g'):
  Inv X pins σ H' { s with heap:=h',gens:=g',drawn:=d',toks:=t' }:=by
 have neL:∀ b o,X.s₀.heap.get? b=some o->b≠X.env.locals:=fun b o e=>Nat.ne_of_lt (Nat.lt_of_lt_of_le (Heap.lt_size e) I.ok.above)
 have neC:∀ b o,X.s₀.heap.get? b=some o->b∉X.ex->b∉ch:=fun b o e hx hb=>by
  rcases(hch b hb).1 with z|z
  . exact hx z
  . exact absurd (Nat.lt_of_lt_of_le (Heap.lt_size e) z) (Nat.lt_irrefl _)
 have cellK:∀ x c,X.env.cells.lookup x=some c->∀ v,s.heap.IsCell c v->h'.IsCell c v:=fun x c e v ⟨o,ho,hd⟩=>by
  have nch:c∉ch:=fun z=>(hch c z).2.2.1 x c e rfl
  by_cases hc:c∈X.fs
  . obtain⟨sl,q⟩:=slot c o (I.cne x c e) hc nch ho (I.freeC x c e)
    exact⟨_,q,hd⟩
  . exact⟨o,keep c o (I.cne x c e) hc nch ho (I.freeC x c e),hd⟩
 refine⟨I.ok,I.os,hg,⟨fun b o e n hb hx=>?_,fun b o e n hb hx=>?_,fun b o e n hx=>?_,fun b o e hx=>?_,fun b xs e=>tups b xs (I.base.tups b xs e),fun b o xs e=>frzs b o xs (I.base.frzs b o xs e),fun b ps e=>?_⟩,?_,fun x c e=>?_,?_,fun x c e=>?_,fun p hp=>?_,hok,I.len⟩
 . exact keep b o (neL b o e) hb (neC b o e hx) (I.base.keep b o e n hb hx) (I.base.free b o e n hx)
 . obtain⟨sl,e1⟩:=I.base.slot b o e n hb hx;obtain⟨sl',e2⟩:=slot b _ (neL b o e) hb (neC b o e hx) e1 (I.base.free b o e n hx)
   exact⟨sl',e2⟩
 . obtain⟨o',e1⟩:=I.base.there b o e hx;exact free b o' (neC b o e hx) e1 (I.base.free b o e n hx)
 . obtain⟨o',e1⟩:=I.base.there b o e hx;exact there b o' (neC b o e hx) e1
 . obtain⟨m1,e1⟩:=I.base.tbls b ps e;obtain⟨m2,e2⟩:=tbls b _ e1
   exact⟨m1++m2,by rw[e2,Array.append_assoc]⟩
 . obtain⟨m,hn,hl⟩:=I.loc
   refine⟨m,ns m hn,fun i x v e1 e2 e3=>?_⟩
   obtain⟨u,r,l⟩:=hl i x v e1 e2 e3
   refine⟨u,r,?_⟩
   rcases l with l|⟨k,c,e,z⟩
   . exact .inl l
   . exact .inr ⟨k,c,e,cellK x c e _ z⟩
 . obtain⟨v,z⟩:=I.cell x c e
   exact⟨v,cellK x c e v z⟩
 . obtain⟨m,⟨o,_,_,ho,_⟩,_⟩:=I.loc;exact free _ o (fun z=>(hch _ z).2.1 rfl) ho I.free
 . obtain⟨v,o,ho,hd⟩:=I.cell x c e;exact free c o (fun z=>(hch c z).2.2.1 x c e rfl) ho (I.freeC x c e)
 . obtain⟨e,n,ne,nf,d⟩:=I.pin p hp
   have nch:p.1∉ch:=fun z=>(hch p.1 z).2.2.2 p hp rfl
   exact⟨keep p.1 p.2 ne nf nch e n,free p.1 p.2 nch e n,ne,nf,d⟩
theorem Inv.un{t':Nat}(I:Inv X pins σ H s)(u:Un X.fs [] H H' s.heap h')(hok:HOk X.prog X.w H' h'):Inv X pins σ H' { s with heap:=h',toks:=t' }:=by
 obtain⟨m,⟨o,es,ep,ho,r⟩,_⟩:=id I.loc;obtain⟨sl,hL⟩:=u.any ho I.free (by simp)
 exact I.step (g':=s.gens) (d':=s.drawn) (ch:=[]) (fun _ z=>nomatch z) (fun b o _ hb _ e n=>u.keep b o e n hb (by simp)) (fun b o _ hb _ e n=>u.slot b o e n hb (by simp)) (fun b o _ e n=>u.free b o e n (by simp)) (fun b o _ e=>u.there b o e (by simp)) u.tups u.frzs u.tbls (fun m' hm=>by
  obtain⟨o',es',ep',ho',r'⟩:=hm;rw[ho]at ho';cases ho'
  exact⟨_,es',ep',hL,r'⟩) hok I.bare
theorem Inv.call{g':Array GenState}{t':Nat}{d':Drawn}{ch:List Addr}(I:Inv X pins σ H s)(u:Un (frs X.stack) ch H H' s.heap h')(hok:HOk X.prog X.w H' h')(hg:AllBare g')
  (hch:∀ b∈ch,(b∈X.ex \/ X.s₀.heap.objs.size<=b) /\ b≠X.env.locals /\ (∀ x c,X.env.cells.lookup x=some c->c≠b) /\ ∀ p∈X.pn++pins,p.1≠b):
  Inv X pins σ H' { s with heap:=h',gens:=g',drawn:=d',toks:=t' }:=by
 obtain⟨m,⟨o,es,ep,ho,r⟩,_⟩:=id I.loc
 obtain⟨sl,hL⟩:=u.any ho I.free fun z=>(hch _ z).2.1 rfl
 exact I.step (ch:=ch) hch (fun b o hL hb hc e n=>u.keep b o e n (fun z=>(List.mem_cons.mp (I.Bu b z)).elim hL hb) hc) (fun b o _ _ hc e n=>u.any e n hc) (fun b o hc e n=>u.free b o e n hc) (fun b o hc e=>u.there b o e hc) u.tups u.frzs u.tbls (fun m' hm=>by
  obtain⟨o',es',ep',ho',r'⟩:=hm;rw[ho]at ho';cases ho'
  exact⟨_,es',ep',hL,r'⟩) hok hg
theorem Inv.turned{t':Nat}{it:Addr}(I:Inv X pins σ H s)(k:∀ b o,b≠it->s.heap.get? b=some o->h'.get? b=some o)(hn:H it=none)(hL:it≠X.env.locals)
  (h1:it∈X.ex \/ X.s₀.heap.objs.size<=it) (h2:∀ x c,X.env.cells.lookup x=some c->c≠it) (h3:∀ p∈X.pn++pins,p.1≠it):Inv X pins σ H { s with heap:=h',toks:=t' }:=by
 have nit:∀ b u,H b=some u->b≠it:=fun b u e z=>by rw[z,hn]at e;cases e
 refine I.step (g':=s.gens) (d':=s.drawn) (ch:=[it]) (fun b hb=>?_) (fun b o _ _ hc e _=>k b o (fun z=>hc (by simp[z])) e) (fun b o _ _ hc e _=>⟨o.slots,k b o (fun z=>hc (by simp[z])) e⟩) (fun _ _ _ _ n=>n)
  (fun b o hc e=>⟨o,k b o (fun z=>hc (by simp[z])) e⟩) (fun _ _ e=>e) (fun _ _ _ e=>e) (fun b ps e=>⟨#[],by rw[e];simp⟩) (fun m hm=>?_) (fun b u e=>?_) I.bare
 . have e:b=it:=by simpa using hb
   subst e
   exact⟨h1,hL,h2,h3⟩
 . obtain⟨o,es,ep,ho,r⟩:=hm
   exact⟨o,es,ep,k _ o (Ne.symm hL) ho,r⟩
 . refine(I.hok b u e).uD (fun c v hc q=>k c v ?_ q) (fun _ q=>q) fun _ _ q=>q
   rcases hc with z|z
   . rw[z];exact nit b u e
   . exact nit c _ z
theorem Inv.tok(I:Inv X pins σ H s)(t:Nat):Inv X pins σ H { s with toks:=t }:=I.un (h':=s.heap) (t':=t) Un.refl I.hok
theorem Inv.kept{t':Nat}(I:Inv X pins σ H s)(k:∀ b u,s.heap.get? b=some u->h'.get? b=some u):Inv X pins σ H { s with heap:=h',toks:=t' }:=I.un (Un.kept k) (I.hok.kept k)
theorem Inv.laid{a:Addr}{o:HO}{t':Nat}(I:Inv X pins σ H s)(k:∀ b u,s.heap.get? b=some u->h'.get? b=some u)(hp:s.heap.objs.size<=a)(new:gq X.prog X.w (upd H a o) h' a o):
  Inv X pins σ (upd H a o) { s with heap:=h',toks:=t' }:=I.un (Un.laid k hp (I.hok.fresh hp)) (I.hok.laid k hp new)
theorem Inv.write{x e:Addr}{o:HO}{t':Nat}(I:Inv X pins σ H s)(mu:Mut (H x))(he:e=x \/ H e=some (.own x))(k:∀ b u,b≠e->s.heap.get? b=some u->h'.get? b=some u)(heo:∃ u,h'.get? e=some u)
  (new:gq X.prog X.w (upd H x o) h' x o):Inv X pins σ (upd H x o) { s with heap:=h',toks:=t' }:=I.un (Un.write mu he k heo) (I.hok.write mu he k heo new)
theorem Inv.B5{pins':List (Addr×Obj)}(I:Inv X pins σ H s)(h:∀ p∈pins',s.heap.get? p.1=some p.2 /\ H p.1=none /\ p.1≠X.env.locals /\ p.1∉X.fs /\ ∀ v,p.2.data≠.cell v):Inv X pins' σ H s:=
 ⟨I.ok,I.os,I.bare,I.base,I.loc,I.cell,I.free,I.freeC,fun p hp=>(List.mem_append.mp hp).elim (fun z=>I.pin p (List.mem_append_left _ z)) (h p),I.hok,I.len⟩
theorem zT{N:List Str}(hN:N.Nodup){i j:Nat}{x:Str}(a:N[i]?=some x)(b:N[j]?=some x):i=j:=by
 obtain⟨h1,e1⟩:=List.getElem?_eq_some_iff.mp a;obtain⟨h2,e2⟩:=List.getElem?_eq_some_iff.mp b
 exact(List.getElem_inj hN).mp (e1.trans e2.symm)
theorem Dw{M:Model}{A:Around}{E:Value->Shared->Prop}{i:Nat}{x:Str}{v:V}{u:Value}{Q:Unit->Shared->Prop}(I:Inv X pins σ H s)(hN:X.N.Nodup)(hi:X.N[i]?=some x)(hx:Loc X.env.scope x)(r:RelV v u)
  (h:∀ s',Inv X pins (σ.set i (some v)) H s'->(∃ a,Heap.SameBut a s.heap s'.heap /\ (a=X.env.locals \/ X.env.cells.lookup x=some a))->Q () s') (hf:X.fn x=true \/ X.env.scope.names.lookup x=some .local:=by first|exact .inl rfl|exact .inr rfl|assumption):wpAny M A (storeName X.env x u) Q E s:=by
 obtain⟨m,hn,hl⟩:=id I.loc
 have hcls:(X.env.scope.kind == .class||(X.env.scope.kind == .module&&X.env.locals != X.env.globals))=false:=by rw[I.ok.kind];rfl
 have hiσ:i<σ.length:=by rw[I.len];exact(List.getElem?_eq_some_iff.mp hi).1
 have cne:=I.cne
 have tracked:∀{a:Addr} {h':Heap},(∃ o,s.heap.get? a=some o /\ H a=none)->Heap.SameBut a s.heap h'->HOk X.prog X.w H h':=fun {a h'} ha hs b ob e=>by
  obtain⟨_,_,hfree⟩:=ha
  refine(I.hok b ob e).uD (fun c w' hc q=>(hs.2 c ?_).trans q) (fun _ q=>q) fun _ _ q=>q
  rintro rfl
  rcases hc with rfl|hc
  . rw[hfree]at e;cases e
  . rw[hfree]at hc;cases hc
 rcases hx with hk|hk
 . refine wpAny_storeName_local hk hn (fun h' hn' hs=>?_) hcls;obtain⟨oL,_,_,hoL,_⟩:=id hn;refine h _ ⟨I.ok,I.os,I.bare,⟨fun b o e n hb hx=>?_,fun b o e n hb hx=>?_,I.base.free,fun b o e hx=>?_,I.base.tups,I.base.frzs,I.base.tbls⟩,⟨_,hn',fun j y v' e1 e2 e3=>?_⟩,fun y c e=>?_,I.free,I.freeC,fun p hp=>?_,tracked ⟨oL,hoL,I.free⟩ hs,by simpa using I.len⟩ ⟨_,hs,.inl rfl⟩
   . exact(hs.2 b (Nat.ne_of_lt (Nat.lt_of_lt_of_le (Heap.lt_size e) I.ok.above))).trans (I.base.keep b o e n hb hx)
   . obtain⟨sl,e1⟩:=I.base.slot b o e n hb hx
     exact⟨sl,(hs.2 b (Nat.ne_of_lt (Nat.lt_of_lt_of_le (Heap.lt_size e) I.ok.above))).trans e1⟩
   . obtain⟨o',e1⟩:=I.base.there b o e hx
     exact⟨o',(hs.2 b (Nat.ne_of_lt (Nat.lt_of_lt_of_le (Heap.lt_size e) I.ok.above))).trans e1⟩
   . by_cases hj:j=i
     . subst hj;rw[hi]at e1;cases e1;rw[List.getElem?_set_self hiσ]at e2;cases e2
       exact⟨u,r,.inl ⟨hk,by simp⟩⟩
     . rw[List.getElem?_set_ne (Ne.symm hj)]at e2;obtain⟨u',r',q⟩:=hl j y v' e1 e2 e3
       refine⟨u',r',?_⟩
       rcases q with⟨k,e⟩|⟨k,c,e,z⟩
       . refine .inl ⟨k,?_⟩
         have:y≠x:=fun e=>hj (zT hN e1 (e ▸ hi))
         simp[this,e]
       . exact .inr ⟨k,c,e,z.sameBut hs (cne y c e)⟩
   . obtain⟨w',z⟩:=I.cell y c e
     exact⟨w',z.sameBut hs (cne y c e)⟩
   . obtain⟨e,n,ne,nf,d⟩:=I.pin p hp
     exact⟨(hs.2 p.1 ne).trans e,n,ne,nf,d⟩
 . have hfn:X.fn x = true:=by
    rcases hf with z|z
    . exact z
    . rw[z]at hk;cases hk
   obtain⟨c,hc⟩:=I.ok.has x (.inl hk);obtain⟨w',z⟩:=I.cell x c hc;refine wpAny_storeName_cell I.ok.kind hk hc z (fun h' hc' hs=>?_);obtain⟨oc,hoc,hocd⟩:=id z;refine h { s with heap:=h' } ⟨I.ok,I.os,I.bare,⟨fun b o e n hb hx=>?_,fun b o e n hb hx=>?_,I.base.free,fun b o e hx=>?_,I.base.tups,I.base.frzs,I.base.tbls⟩,⟨m,hn.sameBut hs (Ne.symm (cne x c hc)),fun j y v' e1 e2 e3=>?_⟩,fun y c' e=>?_,I.free,I.freeC,fun p hp=>?_,tracked ⟨oc,hoc,I.freeC x c hc⟩ hs,by simpa using I.len⟩ ⟨c,hs,.inr hc⟩
   . exact(hs.2 b (Nat.ne_of_lt (Nat.lt_of_lt_of_le (Heap.lt_size e) (I.ok.cab x c hfn hc)))).trans (I.base.keep b o e n hb hx)
   . obtain⟨sl,e1⟩:=I.base.slot b o e n hb hx
     exact⟨sl,(hs.2 b (Nat.ne_of_lt (Nat.lt_of_lt_of_le (Heap.lt_size e) (I.ok.cab x c hfn hc)))).trans e1⟩
   . obtain⟨o',e1⟩:=I.base.there b o e hx
     exact⟨o',(hs.2 b (Nat.ne_of_lt (Nat.lt_of_lt_of_le (Heap.lt_size e) (I.ok.cab x c hfn hc)))).trans e1⟩
   . by_cases hj:j=i
     . subst hj;rw[hi]at e1;cases e1;rw[List.getElem?_set_self hiσ]at e2;cases e2
       exact⟨u,r,.inr ⟨.inl hk,c,hc,hc'⟩⟩
     . rw[List.getElem?_set_ne (Ne.symm hj)]at e2;obtain⟨u',r',q⟩:=hl j y v' e1 e2 e3
       refine⟨u',r',?_⟩
       rcases q with q|⟨k,c',e,z'⟩
       . exact .inl q
       . refine .inr ⟨k,c',e,z'.sameBut hs ?_⟩
         rintro rfl
         exact hj (zT hN e1 (I.ok.inj _ _ _ e hc ▸ hi))
   . by_cases hcc:c'=c
     . subst hcc;exact⟨_,hc'⟩
     . obtain⟨w2,z2⟩:=I.cell y c' e
       exact⟨w2,z2.sameBut hs hcc⟩
   . obtain⟨e,n,ne,nf,d⟩:=I.pin p hp
     refine⟨(hs.2 p.1 ?_).trans e,n,ne,nf,d⟩
     intro q;rw[q,hoc]at e
     have q':oc=p.2:=Option.some.inj e
     exact d w' (by rw[<- q'];exact hocd)
theorem j7{M:Model}{A:Around}{E:Value->Shared->Prop}{i:Nat}{x:Str}{v:V}{u:Value}{Q:Unit->Shared->Prop}(I:Inv X pins σ H s)(hN:X.N.Nodup)(hi:X.N[i]?=some x)(hx:Loc X.env.scope x)(r:RelV v u)
  (h:∀ s',Inv X pins (σ.set i (some v)) H s'->Q () s') (hf:X.fn x=true \/ X.env.scope.names.lookup x=some .local:=by first|exact .inl rfl|exact .inr rfl|assumption):wpAny M A (storeName X.env x u) Q E s:=
 Dw I hN hi hx r (fun s' I' _=>h s' I') hf
theorem Inv.Jf{s':Shared}{ch:List Addr}(I:Inv X pins σ H s)(ho:s'.os=s.os)(u:Un (frs X.stack) ch H H' s.heap s'.heap)(hok:HOk X.prog X.w H' s'.heap)(hg:AllBare s'.gens)
  (hch:∀ b∈ch,(b∈X.ex \/ X.s₀.heap.objs.size<=b) /\ b≠X.env.locals /\ (∀ x c,X.env.cells.lookup x=some c->c≠b) /\ ∀ p∈X.pn++pins,p.1≠b):Inv X pins σ H' s':=by
 obtain⟨h',g',d',t',o'⟩:=s'
 have e:o'=s.os:=ho
 subst e;exact I.call (g':=g') (t':=t') (d':=d') u hok hg hch
end
abbrev XK:=Value->Option Addr->Hp->Prop
abbrev St:=List (Option V)
abbrev VK:=V->Hp->Prop
abbrev TE:=St->Hp->VK->Prop
abbrev TT:=St->Hp->(Bool->Hp->Prop)->Prop
abbrev TA:=St->Hp->(List V->Hp->Prop)->Prop
structure Ends where
 nx:St->Hp->Prop
 rt:VK
 bk:St->Hp->Prop:=fun _ _=>False
 ct:St->Hp->Prop:=fun _ _=>False
abbrev TS:=Ends->St->Hp->Prop
def EP(X:Cx)(pins:List (Addr×Obj))(σ:St)(Q:VK)(u:Value)(s':Shared):Prop:=∃ v H',Inv X pins σ H' s' /\ RelV v u /\ Q v H'
def TP(X:Cx)(pins:List (Addr×Obj))(σ:St)(Q:Bool->Hp->Prop)(b:Bool)(s':Shared):Prop:=∃ H',Inv X pins σ H' s' /\ Q b H'
def AP(X:Cx)(pins:List (Addr×Obj))(σ:St)(Q:List V->Hp->Prop)(us:List Value)(s':Shared):Prop:=∃ vs H',Inv X pins σ H' s' /\ Vals vs us /\ Q vs H'
def SP(X:Cx)(pins:List (Addr×Obj))(D:Ends)(f:Flow)(s':Shared):Prop:=
 match f with
 |.next=>∃ σ' H',Inv X pins σ' H' s' /\ D.nx σ' H'
 |.brk=>∃ σ' H',Inv X pins σ' H' s' /\ D.bk σ' H'
 |.cont=>∃ σ' H',Inv X pins σ' H' s' /\ D.ct σ' H'
 |.ret u=>∃ v σ' H',Inv X pins σ' H' s' /\ RelV v u /\ D.rt v H'
def PE(X:Cx)(e:Expr)(t:TE):Prop:=
 ∀(pins:List (Addr×Obj)) (s:Shared) (σ:St) (H:Hp) (Q:VK),Inv X pins σ H s->t σ H Q->wpAny (model X.prog X.w) X.A (eval e X.env) (EP X pins σ Q) X.xe s
def PT(X:Cx)(e:Expr)(t:TT):Prop:=
 ∀(pins:List (Addr×Obj)) (s:Shared) (σ:St) (H:Hp) (Q:Bool->Hp->Prop),Inv X pins σ H s->t σ H Q->wpAny (model X.prog X.w) X.A (isTrue e X.env (eval e X.env)) (TP X pins σ Q) X.xe s
def PW(X:Cx)(e:Expr)(t:TT):Prop:=
 ∀(whole:Sem Value) (pins:List (Addr×Obj)) (s:Shared) (σ:St) (H:Hp) (Q:Bool->Hp->Prop),Inv X pins σ H s->t σ H Q->wpAny (model X.prog X.w) X.A (isTrue e X.env whole) (TP X pins σ Q) X.xe s
theorem PW.pt{X:Cx}{e:Expr}{t:TT}(h:PW X e t):PT X e t:=h _
def PA(X:Cx)(es:List Expr)(t:TA):Prop:=
 ∀(pos:Pos) (pins:List (Addr×Obj)) (s:Shared) (σ:St) (H:Hp) (Q:List V->Hp->Prop),Inv X pins σ H s->t σ H Q->wpAny (model X.prog X.w) X.A (spliced (backTo pos (starEach es X.env))) (AP X pins σ Q) X.xe s
def PS(X:Cx)(st:Stmt)(t:TS):Prop:=
 ∀(pins:List (Addr×Obj)) (s:Shared) (σ:St) (H:Hp) (D:Ends),Inv X pins σ H s->t D σ H->wpAny (model X.prog X.w) X.A (exec st X.env) (SP X pins D) X.xe s
def PSs(X:Cx)(st:List Stmt)(t:TS):Prop:=
 ∀(pins:List (Addr×Obj)) (s:Shared) (σ:St) (H:Hp) (D:Ends),Inv X pins σ H s->t D σ H->wpAny (model X.prog X.w) X.A (execs st X.env) (SP X pins D) X.xe s
theorem thn{α:Type}{t:Sem α}{Q Q':α->Shared->Prop}{M:Model}{A:Around}{E:Value->Shared->Prop}{s:Shared}(h:wpAny M A t Q E s)(hQ:∀ a s,Q a s->Q' a s):wpAny M A t Q' E s:=wpAny_mono h hQ fun _ _ x=>x
section
variable{X:Cx}
theorem bin{a b:Expr}{ta tb:TE}(ha:PE X a ta)(hb:PE X b tb){pins:List (Addr×Obj)}{s:Shared}{σ:St}{H:Hp}{R:V->V->Hp->Prop}(I:Inv X pins σ H s)(h:ta σ H fun x H1=>tb σ H1 fun y H2=>R x y H2)
  {α:Type} {Q:α->Shared->Prop} {f:Value->Value->Sem α}
  (hf:∀ v u s2 x y H2,Inv X pins σ H2 s2->RelV x v->RelV y u->R x y H2->wpAny (model X.prog X.w) X.A (f v u) Q X.xe s2):
  wpAny (model X.prog X.w) X.A (eval a X.env) (fun v s₁=>wpAny (model X.prog X.w) X.A (eval b X.env) (fun u s₂=>wpAny (model X.prog X.w) X.A (f v u) Q X.xe s₂) X.xe s₁) X.xe s:=by
 refine thn (ha pins s σ H _ I h) fun v s1 ⟨x,H1,I1,r1,q1⟩=>?_
 refine thn (hb pins s1 σ H1 _ I1 q1) fun u s2 ⟨y,H2,I2,r2,q2⟩=>?_
 exact hf v u s2 x y H2 I2 r1 r2 q2
def zd(i:Nat):TE:=fun σ H Q=>∃ v,σ[i]?=some (some v) /\ Q v H
def tC(v:V):TE:=fun _ H Q=>Q v H
theorem Li{i:Nat}{x:Str}{pos:Pos}(hN:X.N[i]?=some x)(hv:Vis X.env.scope x)(hd:(x==("__debug__":Str))=false:=by decide)(hcd:(x==("__classdict__":Str))=false:=by decide):PE X (.Name x pos) (zd i):=by
 intro pins s σ H Q I h;obtain⟨v,e,h⟩:=h;obtain⟨m,hn,hl⟩:=I.loc;obtain⟨u,r,l⟩:=hl i x v hN e hv
 have fin:EP X pins σ Q u s:=⟨v,H,I,r,h⟩
 rcases l with⟨hk,hm⟩|⟨hk,c,hc,hcell⟩
 . exact wpAny_Name (wpAny_loadName_local I.ok.kind hk hn hm fin) hd
 . rcases hk with hk|hk
   . exact wpAny_Name (wpAny_loadName_cell I.ok.kind hk hc hcell fin) hd
   . exact wpAny_Name (wpAny_loadName_free I.ok.kind hk hc hcell fin hcd) hd
theorem KC{i j pos}:PE X (.Constant (.int i) j pos) (tC (.int i)):=fun _ _ _ H _ I h=>wpAny_Constant_int ⟨.int i,H,I.tok _,⟨_,rfl⟩,h⟩
theorem Me{b j pos}:PE X (.Constant (.bool b) j pos) (tC (.bl b)):=fun _ _ _ H _ I h=>Constant_bool ⟨.bl b,H,I,rfl,h⟩
theorem Lv{j pos}:PE X (.Constant .none j pos) (tC .non):=fun _ _ _ H _ I h=>Constant_none ⟨.non,H,I,rfl,h⟩
theorem Kl{x j pos}:PE X (.Constant (.str x) j pos) (tC (.str x)):=fun _ _ _ H _ I h=>Calls.Constant_str ⟨.str x,H,I.tok _,⟨_,rfl⟩,h⟩
def Gl(X:Cx)(x:Str):Prop:=X.env.kindOf x=some .globalImplicit
theorem uO{E:Value->Shared->Prop}{pins:List (Addr×Obj)}{s:Shared}{σ:St}{H:Hp}{x:Str}{u:Value}{pos:Pos}{Q:Value->Shared->Prop}(I:Inv X pins σ H s)(hg:Gl X x)(hm:X.mg x=some u)(h:Q u s)
  (hd:(x==("__debug__":Str))=false:=by decide):wpAny (model X.prog X.w) X.A (eval (.Name x pos) X.env) Q E s:=
 Calls.Name_function_global I.ok.kind hg (Calls.loadGlobal_global (by rw[I.ok.glob];exact I.mod.glob.keeps I.bk) hm h) hd
theorem vW{E:Value->Shared->Prop}{pins:List (Addr×Obj)}{s:Shared}{σ:St}{H:Hp}{x:Str}{u:Value}{pos:Pos}{Q:Value->Shared->Prop}(I:Inv X pins σ H s)(hg:Gl X x)(hm:X.mg x=none)(hv:bootBuiltins x=some u)(h:Q u s)
  (hn:x ≠ "__name__":=by decide) (hd:(x==("__debug__":Str))=false:=by decide):wpAny (model X.prog X.w) X.A (eval (.Name x pos) X.env) Q E s:=by
 obtain⟨mb,h1,h2⟩:=I.mod.blt;exact Calls.Name_function_global I.ok.kind hg (Calls.loadGlobal_builtin (by rw[I.ok.glob];exact I.mod.glob.keeps I.bk) hm (by rw[I.ok.blt];exact h1.keeps I.bk) ((h2 x hn).trans hv) h) hd
theorem Hc{x:Str}{v:V}{u:Value}{pos:Pos}(hg:Gl X x)(hm:X.mg x=some u)(r:RelV v u)(hd:(x==("__debug__":Str))=false:=by decide):PE X (.Name x pos) (tC v):=
 fun _ _ _ H _ I h=>uO I hg hm ⟨v,H,I,r,h⟩ hd
theorem GL{x:Str}{v:V}{u:Value}{pos:Pos}(hg:Gl X x)(hm:X.mg x=none)(hv:bootBuiltins x=some u)(r:RelV v u)(hn:x ≠ "__name__":=by decide)(hd:(x==("__debug__":Str))=false:=by decide):PE X (.Name x pos) (tC v):=
 fun _ _ _ H _ I h=>vW I hg hm hv ⟨v,H,I,r,h⟩ hn hd
variable{a b:Expr}{ta tb:TE}{pos:Pos}
def PC(X:Cx)(op:CmpOp)(a b:Expr)(t:TE):Prop:=
 ∀(pins:List (Addr×Obj)) (s:Shared) (σ:St) (H:Hp) (Q:VK),Inv X pins σ H s->t σ H Q ->
   wpAny (model X.prog X.w) X.A (eval a X.env) (fun v s₁=>wpAny (model X.prog X.w) X.A (eval b X.env) (fun u s₂=>wpAny (model X.prog X.w) X.A (compareOp op v u) (EP X pins σ Q) X.xe s₂) X.xe s₁) X.xe s
theorem zU(b:Expr){op:CmpOp}(h:op≠.In)(h2:op≠.NotIn):behindInMarks op b=false:=by
 have e1:(op==CmpOp.In)=false:=by cases op<;>first|rfl|exact absurd rfl h
 have e2:(op==CmpOp.NotIn)=false:=by cases op<;>first|rfl|exact absurd rfl h2
 cases b<;>simp[behindInMarks,e1,e2]
def tB(t:TE):TT:=fun σ H Q=>t σ H fun x H1=>∃ c,x=.bl c /\ Q c H1
theorem KY{op:CmpOp}{t:TE}(h:PC X op a b t)(h1:behindInMarks op b=false:=by first|exact zU _ (by decide) (by decide)|rfl):PT X (.Compare a [op] [b] pos) (tB t):=by
 intro pins s σ H Q I hw;refine wpAny_isTrue_Compare1 (thn (h pins s σ H _ I hw) fun v s1 h1=>thn h1 fun u s2 h2=>thn h2 fun c s3 ⟨x,H1,I1,r1,q1⟩=>?_) h1;obtain⟨d,rfl,q⟩:=q1;cases r1;exact wpAny_truthy_bool ⟨H1,I1,q⟩
variable{tA tB':TT}{rest:List Expr}
def KQ(t u:TT):TT:=fun σ H Q=>t σ H fun c H1=>if c=true then u σ H1 Q else Q false H1
def tOr(t u:TT):TT:=fun σ H Q=>t σ H fun c H1=>if c=true then Q true H1 else u σ H1 Q
def Hw(t:TT):TT:=fun σ H Q=>t σ H fun c H1=>Q (!c) H1
theorem HF(ha:PT X a tA):PW X (.BoolOp .And [a] pos) tA:=by
 intro wh pins s σ H Q I h;refine isTrue_and (thn (ha pins s σ H Q I h) fun c s1 e=>?_)
 cases c with
 |true=>exact isTrue_and_nil e
 |false=>exact e
theorem Jq(ha:PT X a tA):PW X (.BoolOp .Or [a] pos) tA:=by
 intro wh pins s σ H Q I h;refine isTrue_or (thn (ha pins s σ H Q I h) fun c s1 e=>?_)
 cases c with
 |false=>exact isTrue_or_nil e
 |true=>exact e
theorem Jk(ha:PT X a tA)(hb:PW X (.BoolOp .And (b ::rest) pos) tB'):PW X (.BoolOp .And (a ::b ::rest) pos) (KQ tA tB'):=by
 intro wh pins s σ H Q I h;refine isTrue_and (thn (ha pins s σ H _ I h) fun c s1 ⟨H1,I1,q1⟩=>?_)
 cases c with
 |true=>exact hb wh pins s1 σ H1 Q I1 q1
 |false=>exact⟨H1,I1,q1⟩
theorem LX(ha:PT X a tA)(hb:PW X (.BoolOp .Or (b ::rest) pos) tB'):PW X (.BoolOp .Or (a ::b ::rest) pos) (tOr tA tB'):=by
 intro wh pins s σ H Q I h;refine isTrue_or (thn (ha pins s σ H _ I h) fun c s1 ⟨H1,I1,q1⟩=>?_)
 cases c with
 |true=>exact⟨H1,I1,q1⟩
 |false=>exact hb wh pins s1 σ H1 Q I1 q1
theorem Ks(ha:PT X a tA):PT X (.UnaryOp .Not a pos) (Hw tA):=by
 intro pins s σ H Q I h;exact isTrue_not (ha pins s σ H (fun c H1=>Q (!c) H1) I h)
def F5(ta tb:TE):TE:=fun σ H Q=>ta σ H fun x H1=>∃ c,x=.bl c /\ if c=true then tb σ H1 Q else Q (.bl false) H1
def FJ(ta:TE):TE:=fun σ H Q=>ta σ H fun x H1=>∃ c,x=.bl c /\ Q (.bl (!c)) H1
theorem Kv{op}{t:TE}(h:PE X a t):PE X (.BoolOp op [a] pos) t:=fun pins s σ H Q I hw=>BoolOp_one (h pins s σ H Q I hw)
theorem Kw(ha:PE X a ta)(hb:PE X (.BoolOp .And (b ::rest) pos) tb):PE X (.BoolOp .And (a ::b ::rest) pos) (F5 ta tb):=by
 intro pins s σ H Q I h;refine BoolOp_and (thn (ha pins s σ H _ I h) fun v s1 ⟨x,H1,I1,r1,q1⟩=>?_);obtain⟨c,rfl,q1⟩:=q1;cases r1;refine wpAny_truthy_bool ?_
 cases c with
 |true=>exact hb pins s1 σ H1 Q I1 q1
 |false=>exact⟨.bl false,H1,I1,rfl,q1⟩
theorem JI(ha:PE X a ta):PE X (.UnaryOp .Not a pos) (FJ ta):=by
 intro pins s σ H Q I h;refine UnaryOp_ (thn (ha pins s σ H _ I h) fun v s1 ⟨x,H1,I1,r1,q1⟩=>?_);obtain⟨c,rfl,q1⟩:=q1;cases r1;exact not_of (wpAny_truthy_bool ⟨.bl (!c),H1,I1,rfl,q1⟩)
def tIf(t:TT)(ta tb:TE):TE:=fun σ H Q=>t σ H fun c H1=>if c=true then ta σ H1 Q else tb σ H1 Q
theorem E0{c:Expr}(hc:PT X c tA)(ha:PE X a ta)(hb:PE X b tb):PE X (.IfExp c a b pos) (tIf tA ta tb):=by
 intro pins s σ H Q I h;refine wpAny_IfExp (thn (hc pins s σ H _ I h) fun d s1 ⟨H1,I1,q1⟩=>?_)
 cases d with
 |true=>exact ha pins s1 σ H1 Q I1 q1
 |false=>exact hb pins s1 σ H1 Q I1 q1
end
def SqL(K:PySem.W.Frag)(H:Hp)(a:Addr)(xs:List V):Prop:=
 Rd H a (.lst xs) \/
  ∃(o:Obj) (its:Array Value) (n:Nat),K.lookup a=some o /\ o.cls=.type "list" /\ o.dict=none /\ o.data=.seq its n /\ its.size<=sizeLine /\ Vals xs its.toList
def SqT(K:PySem.W.Frag)(H:Hp)(a:Addr)(xs:List V):Prop:=
 Rd H a (.tup xs) \/
  ∃(o:Obj) (its:Array Value) (n:Nat),K.lookup a=some o /\ o.cls=.type "tuple" /\ o.data=.seq its n /\ its.size<=sizeLine /\ Vals xs its.toList
def NA:Value->Option V
 |.none=>some .non
 |.bool b=>some (.bl b)
 |.int i _=>some (.int i)
 |.str x _=>some (.str x)
 |.bytes b _=>some (.byt b)
 |.float b _=>some (.flt b)
 |.ref a=>some (.ref a)
 |.type n=>some (.ty n)
 |_=>none
theorem RelV.abs{x:V}{u:Value}(r:RelV x u):NA u=some x:=by
 cases x with
 |non=>cases r;rfl
 |bl _=>cases r;rfl
 |int _=>obtain⟨t,rfl⟩:=r;rfl
 |str _=>obtain⟨t,rfl⟩:=r;rfl
 |byt _=>obtain⟨t,rfl⟩:=r;rfl
 |flt _=>obtain⟨t,rfl⟩:=r;rfl
 |ref _=>cases r;rfl
 |ty _=>cases r;rfl
theorem RelV.inj{x y:V}{u:Value}(r:RelV x u)(q:RelV y u):x=y:=Option.some.inj (r.abs.symm.trans q.abs)
theorem Vals.inj:∀{xs ys:List V} {us:List Value},Vals xs us->Vals ys us->xs=ys
 |_,_,_,.nil,.nil=>rfl
 |_,_,_,.cons r t,.cons r' t'=>by rw[r.inj r',Vals.inj t t']
section
variable{X:Cx}{pins:List (Addr×Obj)}{σ:St}{H:Hp}{s:Shared}{a:Addr}{xs ys:List V}
theorem Inv.list(I:Inv X pins σ H s)(h:SqL X.K H a xs):∃ its:List Value,Vals xs its /\ PlainL s.heap a its.toArray /\ xs.length<=sizeLine:=by
 rcases h with h|⟨o,its,n,hk,hc,hd,hs,hz,r⟩
 . obtain⟨z,its,n,r,e⟩:=h.ok I.hok
   exact⟨its,r,⟨_,n,e,rfl,rfl,rfl⟩,z⟩
 . refine⟨its.toList,r,⟨o,n,I.kIn a o hk,hc,hd,by simpa using hs⟩,?_⟩
   have e:=r.length;simp only[Array.length_toList]at e;omega
theorem Inv.tuple(I:Inv X pins σ H s)(h:SqT X.K H a xs):∃ its:List Value,Vals xs its /\ IsTup s.heap a its.toArray /\ xs.length<=sizeLine:=by
 rcases h with h|⟨o,its,n,hk,hc,hs,hz,r⟩
 . obtain⟨z,its,r,p⟩:=h.ok I.hok
   exact⟨its,r,p,z⟩
 . refine⟨its.toList,r,⟨o,I.kIn a o hk,hc,n,by simpa using hs⟩,?_⟩
   have e:=r.length;simp only[Array.length_toList]at e;omega
theorem Inv.zc(I:Inv X pins σ H s)(h:SqL X.K H a xs)(h':SqL X.K H a ys):xs=ys:=by
 obtain⟨its,r,⟨o,n,e,_,_,d⟩,_⟩:=I.list h;obtain⟨its',r',⟨o',n',e',_,_,d'⟩,_⟩:=I.list h';rw[e]at e';cases e';rw[d]at d'
 injection d' with d1 _
 have:its=its':=by simpa using congrArg Array.toList d1
 subst this;exact r.inj r'
theorem Inv.Dc(I:Inv X pins σ H s)(h:SqT X.K H a xs)(h':SqT X.K H a ys):xs=ys:=by
 obtain⟨its,r,⟨o,e,_,n,d⟩,_⟩:=I.tuple h;obtain⟨its',r',⟨o',e',_,n',d'⟩,_⟩:=I.tuple h';rw[e]at e';cases e';rw[d]at d'
 injection d' with d1 _
 have:its=its':=by simpa using congrArg Array.toList d1
 subst this;exact r.inj r'
end
section
variable{X:Cx}{st:Stmt}{rest:List Stmt}{t u:TS}{e:Expr}{te:TE}{pos:Pos}
def DS:TS:=fun D σ H=>D.nx σ H
def K7(t u:TS):TS:=fun D σ H=>t { D with nx:=u D } σ H
theorem G7:PSs X [] DS:=fun _ _ σ H _ I h=>wpAny_execs_nil ⟨σ,H,I,h⟩
theorem Gb(h1:PS X st t)(h2:PSs X rest u):PSs X (st ::rest) (K7 t u):=by
 intro pins s σ H D I h;refine wpAny_execs_cons (thn (h1 pins s σ H { D with nx:=u D } I h) fun f s1 q=>?_)
 cases f with
 | next=>
   obtain⟨σ',H',I',q⟩:=q;exact h2 pins s1 σ' H' D I' q
 |ret v=>exact q
 |brk=>exact q
 |cont=>exact q
theorem GZ(h1:PS X st t):PSs X [st] t:=by
 intro pins s σ H D I h;refine wpAny_execs_cons (thn (h1 pins s σ H D I h) fun f s1 q=>?_)
 cases f with
 |next=>exact wpAny_execs_nil q
 |ret v=>exact q
 |brk=>exact q
 |cont=>exact q
theorem Inv.quiet{pins:List (Addr×Obj)}{σ:St}{H:Hp}{s:Shared}(I:Inv X pins σ H s):interactive X.env=false:=by simp[interactive,I.ok.kind]
def sT(te:TE):TS:=fun D σ H=>te σ H fun _ H1=>D.nx σ H1
theorem G9(he:PE X e te)(hs:swapsWith e none pos.line X.env=pure false:=by rfl):PS X (.Expr e pos) (sT te):=by
 intro pins s σ H D I h;exact wpAny_Expr_any (thn (he pins s σ H _ I h) fun v s1 ⟨x,H1,I1,r1,q1⟩=>⟨σ,H1,I1,q1⟩) I.quiet hs
def GR(te:TE):TS:=fun D σ H=>te σ H D.rt
theorem K6(he:PE X e te):PS X (.Return (some e) pos) (GR te):=by
 intro pins s σ H D I h;exact wpAny_Return_some (thn (he pins s σ H _ I h) fun v s1 ⟨x,H1,I1,r1,q1⟩=>⟨x,σ,H1,I1,r1,q1⟩)
def HR(c:TT)(t u:TS):TS:=fun D σ H=>c σ H fun b H1=>if b=true then t D σ H1 else u D σ H1
theorem Mu{c:Expr}{a b:List Stmt}{tc:TT}(hc:PT X c tc)(ha:PSs X a t)(hb:PSs X b u):PS X (.If c a b pos) (HR tc t u):=by
 intro pins s σ H D I h;refine wpAny_If (thn (hc pins s σ H _ I h) fun d s1 ⟨H1,I1,q1⟩=>?_)
 cases d with
 |true=>exact ha pins s1 σ H1 D I1 q1
 |false=>exact hb pins s1 σ H1 D I1 q1
end
abbrev TG:=V->St->Hp->(St->Hp->Prop)->Prop
abbrev TGs:=List V->St->Hp->(St->Hp->Prop)->Prop
def PG(X:Cx)(target:Expr)(t:TG):Prop:=
 ∀(pins:List (Addr×Obj)) (s:Shared) (σ:St) (H:Hp) (v:V) (u:Value) (Q:St->Hp->Prop),Inv X pins σ H s->RelV v u->t v σ H Q ->
   wpAny (model X.prog X.w) X.A (assign target X.env u) (fun _ s'=>∃ σ' H',Inv X pins σ' H' s' /\ Q σ' H') X.xe s
def PGs(X:Cx)(ts:List Expr)(t:TGs):Prop:=
 ∀(pins:List (Addr×Obj)) (s:Shared) (σ:St) (H:Hp) (vs:List V) (us:List Value) (Q:St->Hp->Prop),Inv X pins σ H s->Vals vs us->t vs σ H Q ->
   wpAny (model X.prog X.w) X.A (assignInOrder ((assignEach ts X.env).map (·.2)) us) (fun _ s'=>∃ σ' H',Inv X pins σ' H' s' /\ Q σ' H') X.xe s
abbrev HZ:=V->V->V->Hp->(Hp->Prop)->Prop
def Ln(X:Cx)(t:HZ):Prop:=
 ∀(pins:List (Addr×Obj)) (s:Shared) (σ:St) (H:Hp) (o i v:V) (ov iv u:Value) (Q:Hp->Prop),Inv X pins σ H s->RelV o ov->RelV i iv->RelV v u->t o i v H Q ->
   wpAny (model X.prog X.w) X.A (setItem ov iv u) (fun _ s'=>∃ H',Inv X pins σ H' s' /\ Q H') X.xe s
section
variable{X:Cx}{pos:Pos}
def kh(i:Nat):TG:=fun v σ H Q=>Q (σ.set i (some v)) H
theorem HG{i:Nat}{x:Str}(hN:X.N.Nodup)(hi:X.N[i]?=some x)(hx:Loc X.env.scope x)(hf:X.fn x=true \/ X.env.scope.names.lookup x=some .local:=by first|exact .inl rfl|exact .inr rfl|assumption):PG X (.Name x pos) (kh i):=by
 intro pins s σ H v u Q I r h;exact wpAny_assign_Name (j7 I hN hi hx r (fun s' I'=>⟨_,H,I',h⟩) hf)
def K5:TGs:=fun vs σ H Q=>vs=[] /\ Q σ H
def BL(t:TG)(u:TGs):TGs:=fun vs σ H Q=>∃ v r,vs=v ::r /\ t v σ H fun σ' H'=>u r σ' H' Q
theorem Ho:PGs X [] K5:=by
 intro pins s σ H vs us Q I r h;obtain⟨e,h⟩:=h;subst e;cases r;exact assignInOrder_nil ⟨σ,H,I,h⟩
theorem Ec{e:Expr}{es:List Expr}{t:TG}{u:TGs}(h1:PG X e t)(h2:PGs X es u)
  (hs:(assignEach (e ::es) X.env).map (·.2)=assign e X.env ::(assignEach es X.env).map (·.2):=by rfl):PGs X (e ::es) (BL t u):=by
 intro pins s σ H vs us Q I r h;obtain⟨v,vr,e1,h⟩:=h;subst e1
 cases r with
 | cons r rr=>
   rw[hs];refine assignInOrder_cons (thn (h1 pins s σ H _ _ _ I r h) fun _ s1 ⟨σ1,H1,I1,q1⟩=>?_);exact h2 pins s1 σ1 H1 _ _ Q I1 rr q1
def Lb(K:PySem.W.Frag)(n:Nat)(t:TGs):TG:=fun v σ H Q=>∃ a xs,v=.ref a /\ SqT K H a xs /\ xs.length=n /\ t xs σ H Q
theorem Jr{es:List Expr}{k:Nat}{t:TGs}{n:Nat}(hc:X.calm=true)(h:PGs X es t)
  (hn:(assignEach es X.env).length=n:=by rfl) (hst:(assignEach es X.env).findIdx? (·.1)=none:=by rfl):PG X (.Tuple es k pos) (Lb X.K n t):=by
 intro pins s σ H v u Q I r hw;obtain⟨a,xs,e1,hq,hl,hw⟩:=hw;subst e1;cases r;obtain⟨its,rv,ht,hz⟩:=I.tuple hq
 refine assign_Tuple_tuple (I.ok.hd hc) ht (by simp[hn,<- hl,rv.length]) hst fun h' hx=>?_
 have I1:Inv X pins σ H { s with heap:=h' }:=I.kept (t':=s.toks) fun b o e=>hx b o (Nat.ne_of_lt (Heap.lt_size e)) e
 exact h pins _ σ H xs _ Q I1 (by simpa using rv) hw
def Ls(to ti:TE)(t:HZ):TG:=fun v σ H Q=>to σ H fun o H1=>ti σ H1 fun i H2=>t o i v H2 fun H3=>Q σ H3
theorem Kp{o i:Expr}{to ti:TE}{t:HZ}(ho:PE X o to)(hi:PE X i ti)(hs:Ln X t)
  (ha:∀ v,assign (.Subscript o i pos) X.env v=(do
    let ov <- holding [v] (eval o X.env)
    let iv <- holding [v,ov] (eval i X.env)
    standAt pos
    holding [v,ov,iv] (setItem ov iv v)
    release [v,ov,iv] []):=by intro _;rfl):PG X (.Subscript o i pos) (Ls to ti t):=by
 intro pins s σ H v u Q I r h;rw[ha];refine wpAny_bind (wpAny_holding (thn (ho pins s σ H _ I h) fun ov s1 ⟨x,H1,I1,r1,q1⟩=>?_));refine wpAny_bind (wpAny_holding (thn (hi pins s1 σ H1 _ I1 q1) fun iv s2 ⟨y,H2,I2,r2,q2⟩=>?_));refine wpAny_bind (wpAny_standAt (wpAny_bind (wpAny_holding (thn (hs pins s2 σ H2 x y v ov iv u _ I2 r1 r2 r q2) fun _ s3 ⟨H3,I3,q3⟩=>?_))));exact wpAny_release ⟨σ,H3,I3,q3⟩
def tW(te:TE)(g:TG):TS:=fun D σ H=>te σ H fun x H1=>g x σ H1 D.nx
theorem JN{tg e:Expr}{te:TE}{g:TG}(he:PE X e te)(hg:PG X tg g)(hs:swapsWithSole [tg] e pos.line X.env=pure false:=by rfl)(hw:swappedStores [tg] e X.env=pure none:=by rfl)
  (h1:(assignEach [tg] X.env).map (·.2)=[assign tg X.env]:=by rfl):PS X (.Assign [tg] e pos) (tW te g):=by
 intro pins s σ H D I h;refine wpAny_Assign_stores (thn (he pins s σ H _ I h) fun v s1 ⟨x,H1,I1,r1,q1⟩=>?_) hs hw;rw[h1]
 exact thn (hg pins s1 σ H1 x v _ I1 r1 q1) fun _ s2 q=>q
theorem Ke{i:Nat}{x:Str}{e:Expr}{te:TE}{pos':Pos}(hN:X.N.Nodup)(hi:X.N[i]?=some x)(hx:Loc X.env.scope x)(he:PE X e te)(hs:swapsWith e (some (.Name x pos')) pos.line X.env=pure false:=by rfl)(hf:X.fn x=true \/ X.env.scope.names.lookup x=some .local:=by first|exact .inl rfl|exact .inr rfl|assumption):
  PS X (.Assign [.Name x pos'] e pos) (tW te (kh i)):=by
 intro pins s σ H D I h;refine wpAny_Assign_Name (thn (he pins s σ H _ I h) fun v s1 ⟨y,H1,I1,r1,q1⟩=>?_) hs;exact j7 I1 hN hi hx r1 (fun s2 I2=>⟨_,H1,I2,q1⟩) hf
end
section
variable{X:Cx}{pos:Pos}
def AE(c:TT)(tb:TS):TS:=fun D σ H=>∃ W:Nat->St->Hp->Prop,(∃ m,W m σ H) /\ ∀ m σ H,W m σ H ->
 c σ H fun b H1=>if b=true then ∃ N:St->Hp->Prop,(∀ σ' H',N σ' H'->∃ m',m'<m /\ W m' σ' H') /\ tb { D with nx:=N,ct:=N,bk:=D.nx } σ H1 else D.nx σ H1
theorem E5{c:Expr}{body:List Stmt}{tc:TT}{tb:TS}(hp:PassesOwn (model X.prog X.w) X.A X.env X.xe)(hc:PT X c tc)(hb:PSs X body tb):PS X (.While c body [] pos) (AE tc tb):=by
 intro pins s σ H D I h;obtain⟨W,⟨m0,w0⟩,turn⟩:=h;refine wpAny_While (codeAny_whileLoop (fun n s'=>∃ σ' H',Inv X pins σ' H' s' /\ W n σ' H') ?_ m0 ⟨σ,H,I,w0⟩)
 rintro n s1 ⟨σ1,H1,I1,w1⟩
 refine wpAny_passesOwn hp (thn (hc pins s1 σ1 H1 _ I1 (turn n σ1 H1 w1)) fun b s2 ⟨H2,I2,q2⟩=>?_)
 cases b with
 | true=>
   obtain⟨N,hN,q2⟩:=q2;rw[if_pos rfl];refine wpAny_passesOwn hp (thn (hb pins s2 σ1 H2 _ I2 q2) fun f s3 q3=>?_)
   cases f with
   | next=>
     obtain⟨σ3,H3,I3,n3⟩:=q3;obtain⟨m',hm,w3⟩:=hN σ3 H3 n3
     exact⟨m',hm,σ3,H3,I3,w3⟩
   | cont=>
     obtain⟨σ3,H3,I3,n3⟩:=q3;obtain⟨m',hm,w3⟩:=hN σ3 H3 n3
     exact⟨m',hm,σ3,H3,I3,w3⟩
   |brk=>exact q3
   |ret v=>exact q3
 | false=>
   rw[if_neg Bool.false_ne_true];exact wpAny_execs_nil ⟨σ1,H2,I2,q2⟩
end
structure It where
 go:Nat->Hp->Prop
 yld:Nat->Hp->V->Hp->Prop
 stop:Nat->Hp->Prop
def ni(X:Cx)(pins:List (Addr×Obj))(H:Hp)(b:Addr):Prop:=
 H b=none /\ b≠X.env.locals /\ b∉X.fs /\ (b∈X.ex \/ X.s₀.heap.objs.size<=b) /\ (∀ x c,X.env.cells.lookup x=some c->c≠b) /\ ∀ p∈X.pn++pins,p.1≠b
theorem Inv.BB{X:Cx}{pins:List (Addr×Obj)}{σ:St}{H H':Hp}{s:Shared}{b:Addr}(I:Inv X pins σ H s)(hb:s.heap.objs.size<=b)(hn:H' b=none):ni X pins H' b:=by
 refine⟨hn,Nat.ne_of_gt (Nat.lt_of_lt_of_le I.lt hb),I.NR hb,.inr (Nat.le_trans I.sz hb),fun x c e z=>?_,fun p hp z=>?_⟩
 . obtain⟨v,q⟩:=I.cell x c e;exact absurd (Nat.lt_of_lt_of_le q.lt (by rw[z];exact hb)) (Nat.lt_irrefl _)
 . exact absurd (Nat.lt_of_lt_of_le (Heap.lt_size (I.pin p hp).1) (by rw[z];exact hb)) (Nat.lt_irrefl _)
structure Turn(P:Program)(w:World)(K:PySem.W.Frag)(tg:Expr)(J:It)(fp:List Addr)(it:Addr)(tn:Nat->Heap->Prop):Prop where
 mem:it∈fp
 obj:∀ i h,tn i h->∀ b∈fp,∃ o,h.get? b=some o /\ ∀ v,o.data≠.cell v
 keep:∀ i h h',tn i h->(∀ b∈fp,∀ o,h.get? b=some o->h'.get? b=some o)->tn i h'
 item:∀(X:Cx),X.prog=P->X.w=w->X.K=K->X.calm=true->∀(i:Nat) (pins:List (Addr×Obj)) (s:Shared) (σ:St) (H:Hp) (E:Value->Shared->Prop),Inv X pins σ H s->(∀ b∈fp,ni X pins H b)->tn i s.heap->J.go i H ->
  wpAny (model P w) X.A (pyNext (.ref it)) (fun r s1=>∃ u,r=some u /\
   wpAny (model P w) X.A (letOwnedTupleGo tg (.ref it) u) (fun _ s2=>∃ x H',Inv X pins σ H' s2 /\ RelV x u /\ J.yld i H x H' /\ tn (i+1) s2.heap /\ ∀ b∈fp,H' b=none) E s1) E s
 done:∀(X:Cx),X.prog=P->X.w=w->X.K=K->X.calm=true->∀(i:Nat) (pins:List (Addr×Obj)) (s:Shared) (σ:St) (H:Hp) (E:Value->Shared->Prop),Inv X pins σ H s->(∀ b∈fp,ni X pins H b)->tn i s.heap->J.stop i H ->
  wpAny (model P w) X.A (pyNext (.ref it)) (fun r s1=>r=none /\ Inv X pins σ H s1) E s
 self:∀(A:Around) (i:Nat) (s:Shared) (Q:Value->Shared->Prop) (E:Value->Shared->Prop),tn i s.heap->Q (.ref it) s->wpAny (model P w) A (pyIter (.ref it)) Q E s
abbrev TI:=St->Hp->(It->Hp->Prop)->Prop
def PIE(X:Cx)(pins:List (Addr×Obj))(σ:St)(tg:Expr)(R:It->Hp->Prop)(itv:Value)(s2:Shared):Prop:=
 ∃(it:Addr) (fp:List Addr) (tn:Nat->Heap->Prop) (J:It) (H':Hp),itv=.ref it /\ Inv X pins σ H' s2 /\ Turn X.prog X.w X.K tg J fp it tn /\ tn 0 s2.heap /\ (∀ b∈fp,ni X pins H' b) /\ R J H'
def PI(X:Cx)(tg iter:Expr)(wi:TI):Prop:=
 ∀(pins:List (Addr×Obj)) (s:Shared) (σ:St) (H:Hp) (R:It->Hp->Prop),Inv X pins σ H s->wi σ H R ->
   wpAny (model X.prog X.w) X.A (eval iter X.env) (fun v s1=>wpAny (model X.prog X.w) X.A (pyIter v) (PIE X pins σ tg R) X.xe s1) X.xe s
theorem B3{M:Model}{A:Around}{E:Value->Shared->Prop}{s:Shared}{tg:Expr}{it:Addr}{u:Value}{o:Obj}{n:String}{vs:Array Value}{Q:Unit->Shared->Prop}(ho:s.heap.get? it=some o)(hc:o.cls=.type n)(hd:o.data=.fields vs)
  (hn:["enumerate","zip","dict_itemiterator","dict_reverseitemiterator","odict_iterator","itertools.zip_longest","itertools.pairwise"].contains n=false) (hQ:Q () s):wpAny M A (letOwnedTupleGo tg (.ref it) u) Q E s:=by
 unfold letOwnedTupleGo
 cases tg<;>first
  |exact wpAny_pure hQ
  | (cases u <;> first
      |exact wpAny_pure hQ
      | (refine wpAny_bind (wpAny_load ho ?_)
         rw[hc,hd];show wpAny M A (if(["enumerate","zip","dict_itemiterator","dict_reverseitemiterator","odict_iterator","itertools.zip_longest","itertools.pairwise"].contains n&&vs[0]?==some (rawInt _))=true then _ else _) Q E s;rw[if_neg (by intro h;rw[hn,Bool.false_and]at h;cases h)]
         exact wpAny_pure hQ))
def Itl(K:PySem.W.Frag)(a:Addr):It:=
 ⟨fun i H=>∃ xs x,SqL K H a xs /\ xs[i]?=some x,fun i H x H'=>H'=H /\ ∀ xs,SqL K H a xs->xs[i]?=some x,fun i H=>∃ xs,SqL K H a xs /\ xs.length<=i⟩
def Itt(K:PySem.W.Frag)(a:Addr):It:=
 ⟨fun i H=>∃ xs x,SqT K H a xs /\ xs[i]?=some x,fun i H x H'=>H'=H /\ ∀ xs,SqT K H a xs->xs[i]?=some x,fun i H=>∃ xs,SqT K H a xs /\ xs.length<=i⟩
def Itr(lo:Int)(n:Nat):It:=⟨fun i _=>i<n,fun i H x H'=>H'=H /\ x=.int (lo+i),fun i _=>n<=i⟩
theorem Dz{P:Program}{w:World}{K:PySem.W.Frag}{tg:Expr}(a it:Addr):Turn P w K tg (Itl K a) [it] it (fun i h=>h.IsListIter it a i) where
 mem:=by simp
 obj:=fun i h st b hb=>by
  have e:b=it:=by simpa using hb
  subst e;obtain⟨o,e,c,d⟩:=st
  exact⟨o,e,fun v z=>by rw[d]at z;cases z⟩
 keep:=fun i h h' st k=>st.at fun o e=>k it (by simp) o e
 item:=by
  intro X hP hw hK hc i pins s σ H E I hf st hg;subst hP hw hK;obtain⟨xs,x,hq,hx⟩:=hg;obtain⟨its,rv,p,hz⟩:=I.list hq;obtain⟨u,hu,ru⟩:=rv.get hx;obtain⟨f0,f1,f2,f3,f4,f5⟩:=hf it (by simp)
  refine wpAny_pyNext_list_item st p.isList (x:=u) (by simpa using hu) fun h' st' sb=>?_
  have I1:Inv X pins σ H { s with heap:=h' }:=I.turned (t':=s.toks) (fun b o hb e=>(sb.2 b hb).trans e) f0 f1 f3 f4 f5
  obtain⟨o,e,c,d⟩:=id st'
  exact⟨u,rfl,B3 (s:={ s with heap:=h' }) e c d (by decide) ⟨x,H,I1,ru,⟨rfl,fun ys hy=>by rw[I.zc hy hq];exact hx⟩,st',fun b hb=>(hf b hb).1⟩⟩
 done:=by
  intro X hP hw hK hc i pins s σ H E I hf st hg;subst hP hw hK;obtain⟨xs,hq,hx⟩:=hg;obtain⟨its,rv,p,hz⟩:=I.list hq;obtain⟨f0,f1,f2,f3,f4,f5⟩:=hf it (by simp);have hl:=rv.length
  exact wpAny_pyNext_list_end (I.ok.hd hc) st p.isList (by simp;omega) fun h' eb=>⟨rfl,I.turned (t':=s.toks) (fun b o hb e=>eb b o hb e) f0 f1 f3 f4 f5⟩
 self:=fun _ _ _ _ _ st h=>wpAny_pyIter_listiter st h
theorem AS{P:Program}{w:World}{K:PySem.W.Frag}{tg:Expr}(a it:Addr):Turn P w K tg (Itt K a) [it] it (fun i h=>h.IsTupleIter it a i) where
 mem:=by simp
 obj:=fun i h st b hb=>by
  have e:b=it:=by simpa using hb
  subst e;obtain⟨o,e,c,d⟩:=st
  exact⟨o,e,fun v z=>by rw[d]at z;cases z⟩
 keep:=fun i h h' st k=>st.at fun o e=>k it (by simp) o e
 item:=by
  intro X hP hw hK hc i pins s σ H E I hf st hg;subst hP hw hK;obtain⟨xs,x,hq,hx⟩:=hg;obtain⟨its,rv,p,hz⟩:=I.tuple hq;obtain⟨u,hu,ru⟩:=rv.get hx;obtain⟨f0,f1,f2,f3,f4,f5⟩:=hf it (by simp)
  refine wpAny_pyNext_tuple_item st (show s.heap.IsTuple a its.toArray from p) (x:=u) (by simpa using hu) fun h' st' sb=>?_
  have I1:Inv X pins σ H { s with heap:=h' }:=I.turned (t':=s.toks) (fun b o hb e=>(sb.2 b hb).trans e) f0 f1 f3 f4 f5
  obtain⟨o,e,c,d⟩:=id st'
  exact⟨u,rfl,B3 (s:={ s with heap:=h' }) e c d (by decide) ⟨x,H,I1,ru,⟨rfl,fun ys hy=>by rw[I.Dc hy hq];exact hx⟩,st',fun b hb=>(hf b hb).1⟩⟩
 done:=by
  intro X hP hw hK hc i pins s σ H E I hf st hg;subst hP hw hK;obtain⟨xs,hq,hx⟩:=hg;obtain⟨its,rv,p,hz⟩:=I.tuple hq;obtain⟨f0,f1,f2,f3,f4,f5⟩:=hf it (by simp);have hl:=rv.length
  exact wpAny_pyNext_tuple_end (I.ok.hd hc) st (show s.heap.IsTuple a its.toArray from p) (by simp;omega) fun h' eb=>⟨rfl,I.turned (t':=s.toks) (fun b o hb e=>eb b o hb e) f0 f1 f3 f4 f5⟩
 self:=fun _ _ _ _ _ st h=>wpAny_pyIter_tupleiter st h
theorem Bs{P:Program}{w:World}{K:PySem.W.Frag}{tg:Expr}(it:Addr)(lo:Int)(n:Nat):Turn P w K tg (Itr lo n) [it] it (fun i h=>IsRangeIter h it (lo+(i:Nat)*1) ((n:Int) - (i:Nat)) 1) where
 mem:=by simp
 obj:=fun i h st b hb=>by
  have e:b=it:=by simpa using hb
  subst e
  exact⟨_,st,fun v z=>by
   have z':Data.fields _=Data.cell v:=z
   cases z'⟩
 keep:=fun i h h' st k=>k it (by simp) _ st
 item:=by
  intro X hP hw hK hc i pins s σ H E I hf st hg;subst hP hw hK;obtain⟨f0,f1,f2,f3,f4,f5⟩:=hf it (by simp);have W:=Walks.range (prog:=X.prog) (w:=X.w) (I.ok.hd hc) it lo 1 n
  refine W.item i s _ _ hg st fun v h' tk hv st' kk=>?_
  obtain⟨t,rfl⟩:=hv
  have I1:Inv X pins σ H { s with heap:=h',toks:=tk }:=I.turned (fun b o hb e=>kk b o (by simpa using hb) e) f0 f1 f3 f4 f5
  refine⟨_,rfl,B3 (s:={ s with heap:=h',toks:=tk }) (n:="range_iterator") st' rfl rfl (by decide) ⟨.int (lo+i),H,I1,⟨t,?_⟩,⟨rfl,rfl⟩,st',fun b hb=>(hf b hb).1⟩⟩
  rw[Int.mul_one]
 done:=by
  intro X hP hw hK hc i pins s σ H E I hf st hg;subst hP hw hK;obtain⟨f0,f1,f2,f3,f4,f5⟩:=hf it (by simp)
  exact wpAny_pyNext_range_end (I.ok.hd hc) st (by have:n<=i:=hg;omega) fun h' eb=>⟨rfl,I.turned (t':=s.toks) (fun b o hb e=>eb b o hb e) f0 f1 f3 f4 f5⟩
 self:=fun _ _ _ _ _ st h=>wpAny_pyIter_rangeiter st h
section
variable{X:Cx}{tg:Expr}
def zu(K:PySem.W.Frag)(tl:TE):TI:=fun σ H R=>tl σ H fun x H1=>∃ a,x=.ref a /\ (∃ xs,SqL K H1 a xs) /\ R (Itl K a) H1
def JY(K:PySem.W.Frag)(tl:TE):TI:=fun σ H R=>tl σ H fun x H1=>∃ a,x=.ref a /\ (∃ xs,SqT K H1 a xs) /\ R (Itt K a) H1
theorem GO{l:Expr}{tl:TE}(hl:PE X l tl):PI X tg l (zu X.K tl):=by
 intro pins s σ H R I h
 refine thn (hl pins s σ H _ I h) fun v s1 ⟨x,H1,I1,r1,q1⟩=>?_
 obtain⟨a,e,⟨xs,hq⟩,q⟩:=q1;subst e;cases r1;obtain⟨its,rv,p,hz⟩:=I1.list hq;refine wpAny_pyIter_list p.isList ?_
 refine⟨s1.heap.objs.size,[s1.heap.objs.size],_,_,H1,rfl,I1.kept (t':=s1.toks) fun b o e=>Heap.get?_push_of_some _ e,Dz a _,⟨_,Heap.get?_push_size _ rfl,rfl,rfl⟩,fun b hb=>?_,q⟩
 have e:b=s1.heap.objs.size:=by simpa using hb
 subst e;exact I1.BB (Nat.le_refl _) (I1.hok.fresh (Nat.le_refl _))
theorem Ju{l:Expr}{tl:TE}(hl:PE X l tl):PI X tg l (JY X.K tl):=by
 intro pins s σ H R I h
 refine thn (hl pins s σ H _ I h) fun v s1 ⟨x,H1,I1,r1,q1⟩=>?_
 obtain⟨a,e,⟨xs,hq⟩,q⟩:=q1;subst e;cases r1;obtain⟨its,rv,p,hz⟩:=I1.tuple hq;refine wpAny_pyIter_tuple (show s1.heap.IsTuple a its.toArray from p) ?_
 refine⟨s1.heap.objs.size,[s1.heap.objs.size],_,_,H1,rfl,I1.kept (t':=s1.toks) fun b o e=>Heap.get?_push_of_some _ e,AS a _,⟨_,Heap.get?_push_size _ rfl,rfl,rfl⟩,fun b hb=>?_,q⟩
 have e:b=s1.heap.objs.size:=by simpa using hb
 subst e;exact I1.BB (Nat.le_refl _) (I1.hok.fresh (Nat.le_refl _))
theorem Fi{pins:List (Addr×Obj)}{σ:St}{H:Hp}{s:Shared}{R:It->Hp->Prop}{E:Value->Shared->Prop}{lo hi:Int}{t u v:Tok}{tk:Nat}(I:Inv X pins σ H s)(h1:-(2 ^ 62)<=lo)(h2:lo<2 ^ 62)(h3:-(2 ^ 62)<=hi)(h4:hi<2 ^ 62)
  (q:R (Itr lo (hi - lo).toNat) H):wpAny (model X.prog X.w) X.A (pyIter (.ref s.heap.objs.size)) (PIE X pins σ tg R) E { s with heap:=s.heap.push { cls:=.type "range",data:=.fields #[.int lo t,.int hi u,.int 1 v] },toks:=tk }:=by
 refine wpAny_pyIter_range (IsRange.new ..) (small_one h1 h2 h3 h4) ?_
 have I1:Inv X pins σ H { s with heap:=s.heap.push { cls:=.type "range",data:=.fields #[.int lo t,.int hi u,.int 1 v] },toks:=tk }:=I.kept fun b o e=>Heap.get?_push_of_some _ e
 refine⟨(s.heap.push { cls:=.type "range",data:=.fields #[.int lo t,.int hi u,.int 1 v] }).objs.size,[(s.heap.push { cls:=.type "range",data:=.fields #[.int lo t,.int hi u,.int 1 v] }).objs.size],_,_,H,rfl,
  I1.kept (t':=tk) fun b o e=>Heap.get?_push_of_some _ e,Bs _ lo (hi - lo).toNat,?_,fun b hb=>?_,q⟩
 . have e1:lo+((0:Nat):Int)*1=lo:=by simp
   have e2:(((hi - lo).toNat:Nat):Int) - ((0:Nat):Int)=Builtin.Range.rangeSize lo hi 1:=by rw[rangeSize_one];split<;>omega
   show IsRangeIter _ _ (lo+((0:Nat):Int)*1) ((((hi - lo).toNat:Nat):Int) - ((0:Nat):Int)) 1;rw[e1,e2];exact Heap.get?_push_size _ rfl
 . have e:b=(s.heap.push { cls:=.type "range",data:=.fields #[.int lo t,.int hi u,.int 1 v] }).objs.size:=by simpa using hb
   subst e;exact I1.BB (Nat.le_refl _) (I1.hok.fresh (Nat.le_refl _))
def BW(ta:TA):TI:=fun σ H R=>ta σ H fun vs H1=>∃ j:Int,vs=[.int j] /\ -(2 ^ 62)<=j /\ j<2 ^ 62 /\ R (Itr 0 j.toNat) H1
theorem Dh{a:Expr}{ta:TA}{p pos:Pos}(hg:Gl X "range")(hm:X.mg "range" = none)(ha:PA X [a] ta)(hs:starEach [a] X.env=[(false,eval a X.env)]:=by rfl):PI X tg (.Call (.Name "range" p) [a] [] pos) (BW ta):=by
 intro pins s σ H R I h;refine Call_ (vW I hg hm boot_range (PyProof.Rows.callWith_type1 (thn (ha pos pins s σ H _ I h) fun us s1 ⟨vs,H1,I1,r1,q1⟩=>?_) hs rfl));obtain⟨j,e,q1,q2,q⟩:=q1;subst e
 cases r1 with
 | cons r rr=>
   cases rr;obtain⟨t,rfl⟩:=r;exact call_range_1 (Fi I1 (by omega) (by omega) q1 q2 (by simpa using q))
def EN(wi:TI)(g:TG)(tb:TS):TS:=fun D σ H=>wi σ H fun J H1=>∃ W:Nat->Nat->St->Hp->Prop,(∃ m,W 0 m σ H1) /\ ∀ i m σ H,W i m σ H ->
 (J.stop i H /\ D.nx σ H) \/ (J.go i H /\ ∃ N:St->Hp->Prop,(∀ σ' H',N σ' H'->∃ m',m'<m /\ W (i+1) m' σ' H') /\ ∀ x H',J.yld i H x H'->g x σ H' fun σ2 H2=>tb { D with nx:=N,ct:=N,bk:=D.nx } σ2 H2)
def xU(fp:List Addr)(h:Heap):List (Addr×Obj):=fp.filterMap fun b=>(h.get? b).map fun o=>(b,o)
theorem cQ{fp:List Addr}{h:Heap}{b:Addr}{o:Obj}(hb:b∈fp)(e:h.get? b=some o):(b,o)∈xU fp h:=List.mem_filterMap.mpr ⟨b,hb,by rw[e];rfl⟩
theorem CW{fp:List Addr}{h:Heap}{p:Addr×Obj}(hp:p∈xU fp h):p.1∈fp /\ h.get? p.1=some p.2:=by
 obtain⟨b,hb,e⟩:=List.mem_filterMap.mp hp
 cases q:h.get? b with
 |none=>rw[q]at e;cases e
 | some o=>
   rw[q]at e
   have e':(b,o)=p:=Option.some.inj e
   subst e'
   exact⟨hb,q⟩
theorem Inv.pinned{pins:List (Addr×Obj)}{σ:St}{H:Hp}{s:Shared}{fp:List Addr}(I:Inv X pins σ H s)(hf:∀ b∈fp,ni X pins H b)(ho:∀ b∈fp,∃ o,s.heap.get? b=some o /\ ∀ v,o.data≠.cell v):Inv X (pins++xU fp s.heap) σ H s:=
 I.B5 fun p hp=>(List.mem_append.mp hp).elim (fun z=>I.pin p (List.mem_append_right _ z)) fun z=>by
  obtain⟨hb,e⟩:=CW z;obtain⟨f0,f1,f2,_⟩:=hf p.1 hb;obtain⟨o,e',d⟩:=ho p.1 hb;rw[e]at e';cases e'
  exact⟨e,f0,f1,f2,d⟩
theorem Inv.gF{pins pl:List (Addr×Obj)}{σ:St}{H:Hp}{s:Shared}(I:Inv X (pins++pl) σ H s):Inv X pins σ H s:=I.B5 fun p hp=>I.pin p (List.mem_append_right _ (List.mem_append_left _ hp))
theorem KG{iter:Expr}{body:List Stmt}{wi:TI}{g:TG}{tb:TS}{pos:Pos}(hp:PassesOwn (model X.prog X.w) X.A X.env X.xe)(hc:X.calm=true)(hi:PI X tg iter wi)(hg:PG X tg g)(hb:PSs X body tb)
  (hs:∀ x,foldedSetIterable iter X.env x=pure x:=by intro _;rfl):PS X (.For tg iter body [] pos) (EN wi g tb):=by
 intro pins s σ H D I h;refine wpAny_For (thn (hi pins s σ H _ I h) fun v s1 h1=>thn h1 fun itv s2 h2=>?_) hs;obtain⟨it,fp,tn,J,H2,e,I2,T,st2,f2,W,⟨m0,w0⟩,turn⟩:=h2;subst e
 have stat:∀{H':Hp},(∀ b∈fp,H' b=none)->∀ b∈fp,ni X pins H' b:=fun hn b hb=>⟨hn b hb,(f2 b hb).2⟩
 refine codeAny_forLoop_any (fun n s'=>∃ i σ' H',Inv X pins σ' H' s' /\ tn i s'.heap /\ (∀ b∈fp,H' b=none) /\ W i n σ' H') ?_ m0 ⟨0,σ,H2,I2,st2,fun b hb=>(f2 b hb).1,w0⟩
 rintro n s3 ⟨i,σ3,H3,I3,st3,fr3,w3⟩
 rcases turn i n σ3 H3 w3 with⟨stop,qn⟩|⟨go,N,hN,step⟩
 . refine wpAny_passesOwn hp (thn (T.done X rfl rfl rfl hc i pins s3 σ3 H3 X.xe I3 (stat fr3) st3 stop) fun r s4 ⟨hr,I4⟩=>?_);subst hr;exact wpAny_execs_nil ⟨σ3,H3,I4,qn⟩
 . refine wpAny_passesOwn hp (thn (T.item X rfl rfl rfl hc i pins s3 σ3 H3 X.xe I3 (stat fr3) st3 go) fun r s4 ⟨u,hr,h4⟩=>?_);subst hr;refine wpAny_passesOwn hp (thn h4 fun _ s5 ⟨x,H5,I5,r5,y5,st5,fr5⟩=>?_)
   have I5':=I5.pinned (stat fr5) (T.obj _ _ st5)
   refine wpAny_passesOwn hp (thn (hg _ s5 σ3 H5 x u _ I5' r5 (step x H5 y5)) fun _ s6 ⟨σ6,H6,I6,q6⟩=>?_);refine wpAny_passesOwn hp (thn (hb _ s6 σ6 H6 _ I6 q6) fun f s7 q7=>?_)
   have again:∀{σ7:St} {H7:Hp},Inv X (pins++xU fp s5.heap) σ7 H7 s7->N σ7 H7->∃ m,m<n /\ ∃ i σ' H',Inv X pins σ' H' s7 /\ tn i s7.heap /\ (∀ b∈fp,H' b=none) /\ W i m σ' H':=fun {σ7 H7} I7 n7=>by
    obtain⟨m',hm,w7⟩:=hN σ7 H7 n7
    refine⟨m',hm,i+1,σ7,H7,I7.gF,T.keep _ _ _ st5 fun b hb o e=>(I7.pin (b,o) (List.mem_append_right _ (List.mem_append_right _ (cQ hb e)))).1,fun b hb=>?_,w7⟩
    obtain⟨o,e,d⟩:=T.obj _ _ st5 b hb
    exact(I7.pin (b,o) (List.mem_append_right _ (List.mem_append_right _ (cQ hb e)))).2.1
   cases f with
   |next=>obtain⟨σ7,H7,I7,n7⟩:=q7;exact again I7 n7
   |cont=>obtain⟨σ7,H7,I7,n7⟩:=q7;exact again I7 n7
   |brk=>obtain⟨σ7,H7,I7,q7⟩:=q7;exact⟨σ7,H7,I7.gF,q7⟩
   |ret v=>obtain⟨x7,σ7,H7,I7,r7,q7⟩:=q7;exact⟨x7,σ7,H7,I7.gF,r7,q7⟩
end
theorem DV{K:PySem.W.Frag}{a:Addr}{xs:List V}{g:TG}{tb:TS}{D:Ends}{σ:St}{H:Hp}(Pv:Nat->St->Hp->Prop)(h0:Pv 0 σ H)(hl:∀ i σ H,i<=xs.length->Pv i σ H->SqL K H a xs)
  (hs:∀ i x σ H,xs[i]?=some x->Pv i σ H->g x σ H fun σ2 H2=>tb { D with nx:=Pv (i+1),ct:=Pv (i+1),bk:=D.nx } σ2 H2) (hd:∀ σ H,Pv xs.length σ H->D.nx σ H):
  ∃ W:Nat->Nat->St->Hp->Prop,(∃ m,W 0 m σ H) /\ ∀ i m σ H,W i m σ H ->
    ((Itl K a).stop i H /\ D.nx σ H) \/ ((Itl K a).go i H /\ ∃ N:St->Hp->Prop,(∀ σ' H',N σ' H'->∃ m',m'<m /\ W (i+1) m' σ' H') /\ ∀ x H',(Itl K a).yld i H x H'->g x σ H' fun σ2 H2=>tb { D with nx:=N,ct:=N,bk:=D.nx } σ2 H2):=by
 refine⟨fun i m σ H=>m=xs.length - i /\ i<=xs.length /\ Pv i σ H,⟨xs.length,by simp,Nat.zero_le _,h0⟩,?_⟩
 rintro i m σ H ⟨rfl,hi,p⟩
 have q:=hl i σ H hi p
 by_cases hlt:i<xs.length
 . refine .inr ⟨⟨xs,xs[i],q,by simp[hlt]⟩,Pv (i+1),fun σ' H' p'=>⟨xs.length - (i+1),by omega,rfl,hlt,p'⟩,fun x H' y=>?_⟩;obtain⟨e,y⟩:=y;subst e;exact hs i x σ _ (y xs q) p
 . have e:i=xs.length:=by omega
   subst e;exact .inl ⟨⟨xs,q,Nat.le_refl _⟩,hd σ H p⟩
theorem Dj{lo:Int}{n:Nat}{g:TG}{tb:TS}{D:Ends}{σ:St}{H:Hp}(Pv:Nat->St->Hp->Prop)(h0:Pv 0 σ H)
  (hs:∀ i σ H,i<n->Pv i σ H->g (.int (lo+i)) σ H fun σ2 H2=>tb { D with nx:=Pv (i+1),ct:=Pv (i+1),bk:=D.nx } σ2 H2) (hd:∀ σ H,Pv n σ H->D.nx σ H):
  ∃ W:Nat->Nat->St->Hp->Prop,(∃ m,W 0 m σ H) /\ ∀ i m σ H,W i m σ H ->
    ((Itr lo n).stop i H /\ D.nx σ H) \/ ((Itr lo n).go i H /\ ∃ N:St->Hp->Prop,(∀ σ' H',N σ' H'->∃ m',m'<m /\ W (i+1) m' σ' H') /\ ∀ x H',(Itr lo n).yld i H x H'->g x σ H' fun σ2 H2=>tb { D with nx:=N,ct:=N,bk:=D.nx } σ2 H2):=by
 refine⟨fun i m σ H=>m=n - i /\ i<=n /\ Pv i σ H,⟨n,by simp,Nat.zero_le _,h0⟩,?_⟩
 rintro i m σ H ⟨rfl,hi,p⟩
 by_cases hlt:i<n
 . refine .inr ⟨hlt,Pv (i+1),fun σ' H' p'=>⟨n - (i+1),by omega,rfl,hlt,p'⟩,fun x H' y=>?_⟩;obtain⟨e,y⟩:=y;subst e y;exact hs i σ _ hlt p
 . have e:i=n:=by omega
   subst e;exact .inl ⟨Nat.le_refl _,hd σ H p⟩
abbrev R2:=V->V->Hp->VK->Prop
def OpR(X:Cx)(f:Value->Value->Sem Value)(r:R2):Prop:=
 ∀(pins:List (Addr×Obj)) (s:Shared) (σ:St) (H:Hp) (x y:V) (v u:Value) (Q:VK),Inv X pins σ H s->RelV x v->RelV y u->r x y H Q ->
   wpAny (model X.prog X.w) X.A (f v u) (EP X pins σ Q) X.xe s
def UnR(X:Cx)(f:Value->Sem Value)(r:V->Hp->VK->Prop):Prop:=
 ∀(pins:List (Addr×Obj)) (s:Shared) (σ:St) (H:Hp) (x:V) (v:Value) (Q:VK),Inv X pins σ H s->RelV x v->r x H Q ->
   wpAny (model X.prog X.w) X.A (f v) (EP X pins σ Q) X.xe s
def oI(X:Cx)(f:Value)(r:List V->Hp->VK->Prop):Prop:=
 ∀(pins:List (Addr×Obj)) (s:Shared) (σ:St) (H:Hp) (xs:List V) (us:List Value) (Q:VK),Inv X pins σ H s->Vals xs us->r xs H Q ->
   wpAny (model X.prog X.w) X.A (call f us) (EP X pins σ Q) X.xe s
def Nn(X:Cx)(r:V->Hp->(Bool->Hp->Prop)->Prop):Prop:=
 ∀(pins:List (Addr×Obj)) (s:Shared) (σ:St) (H:Hp) (x:V) (v:Value) (Q:Bool->Hp->Prop),Inv X pins σ H s->RelV x v->r x H Q ->
   wpAny (model X.prog X.w) X.A (truthy v) (TP X pins σ Q) X.xe s
def tOp(r:R2)(ta tb:TE):TE:=fun σ H Q=>ta σ H fun x H1=>tb σ H1 fun y H2=>r x y H2 Q
def tUn(r:V->Hp->VK->Prop)(ta:TE):TE:=fun σ H Q=>ta σ H fun x H1=>r x H1 Q
def rI(C:Int->Int->Prop)(g:Int->Int->V):R2:=fun x y H Q=>∃ i j,x=.int i /\ y=.int j /\ C i j /\ Q (g i j) H
def rI0(g:Int->Int->V):R2:=fun x y H Q=>∃ i j,x=.int i /\ y=.int j /\ Q (g i j) H
def rU(g:Int->V):V->Hp->VK->Prop:=fun x H Q=>∃ i,x=.int i /\ Q (g i) H
section
variable{X:Cx}{a b c:Expr}{ta tb tc:TE}{pos:Pos}
theorem Jt(ha:PE X a ta)(hb:PE X b tb){pins:List (Addr×Obj)}{s:Shared}{σ:St}{H:Hp}{R:V->V->Hp->Prop}(I:Inv X pins σ H s)
  (h:ta σ H fun x H1=>tb σ H1 fun y H2=>R x y H2) {Q:Value->Shared->Prop} {f:Value->Value->Sem Value}
  (hf:∀ v u s2 x y H2,Inv X pins σ H2 s2->RelV x v->RelV y u->R x y H2->wpAny (model X.prog X.w) X.A (f v u) Q X.xe s2):
  wpAny (model X.prog X.w) X.A (eval a X.env) (fun v s₁=>wpAny (model X.prog X.w) X.A (eval b X.env) (fun u s₂=>wpAny (model X.prog X.w) X.A (f v u) Q X.xe s₂) X.xe s₁) X.xe s:=by
 refine thn (ha pins s σ H _ I h) fun v s1 ⟨x,H1,I1,r1,q1⟩=>?_
 refine thn (hb pins s1 σ H1 _ I1 q1) fun u s2 ⟨y,H2,I2,r2,q2⟩=>?_
 exact hf v u s2 x y H2 I2 r1 r2 q2
theorem LP{op:Operator}{r:R2}(ho:OpR X (binaryOp op) r)(ha:PE X a ta)(hb:PE X b tb):PE X (.BinOp a op b pos) (tOp r ta tb):=by
 intro pins s σ H Q I h;exact wpAny_BinOp (Jt ha hb I h fun v u s2 x y H2 I2 rx ry q=>ho pins s2 σ H2 x y v u Q I2 rx ry q)
theorem Ml{op:UnaryOp}{r:V->Hp->VK->Prop}(ho:UnR X (unaryOp op) r)(ha:PE X a ta):PE X (.UnaryOp op a pos) (tUn r ta):=by
 intro pins s σ H Q I h;exact UnaryOp_ (thn (ha pins s σ H _ I h) fun v s1 ⟨x,H1,I1,r1,q1⟩=>ho pins s1 σ H1 x v Q I1 r1 q1)
theorem opI{f:Value->Value->Sem Value}{C:Int->Int->Prop}{g:Int->Int->Int}
  (rule:∀(i j:Int) (t u:Tok) (s:Shared) (Q:Value->Shared->Prop) (E:Value->Shared->Prop),C i j->Q (.int (g i j) s.toks) { s with toks:=s.toks+1 }->wpAny (model X.prog X.w) X.A (f (.int i t) (.int j u)) Q E s):
  OpR X f (rI C fun i j=>.int (g i j)):=by
 intro pins s σ H x y v u Q I rx ry h;obtain⟨i,j,rfl,rfl,hc,q⟩:=h;obtain⟨t,rfl⟩:=rx;obtain⟨t',rfl⟩:=ry;exact rule i j t t' s _ _ hc ⟨.int (g i j),H,I.tok _,⟨_,rfl⟩,q⟩
theorem LV{f:Value->Value->Sem Value}{g:Int->Int->Int}
  (rule:∀(i j:Int) (t u:Tok) (s:Shared) (Q:Value->Shared->Prop) (E:Value->Shared->Prop),Q (.int (g i j) s.toks) { s with toks:=s.toks+1 }->wpAny (model X.prog X.w) X.A (f (.int i t) (.int j u)) Q E s):
  OpR X f (rI0 fun i j=>.int (g i j)):=by
 intro pins s σ H x y v u Q I rx ry h;obtain⟨i,j,rfl,rfl,q⟩:=h;obtain⟨t,rfl⟩:=rx;obtain⟨t',rfl⟩:=ry;exact rule i j t t' s _ _ ⟨.int (g i j),H,I.tok _,⟨_,rfl⟩,q⟩
theorem HC{f:Value->Value->Sem Value}{g:Int->Int->Bool}
  (rule:∀(i j:Int) (t u:Tok) (s:Shared) (Q:Value->Shared->Prop) (E:Value->Shared->Prop),Q (.bool (g i j)) s->wpAny (model X.prog X.w) X.A (f (.int i t) (.int j u)) Q E s):
  OpR X f (rI0 fun i j=>.bl (g i j)):=by
 intro pins s σ H x y v u Q I rx ry h;obtain⟨i,j,rfl,rfl,q⟩:=h;obtain⟨t,rfl⟩:=rx;obtain⟨t',rfl⟩:=ry;exact rule i j t t' s _ _ ⟨.bl (g i j),H,I,rfl,q⟩
def Ld(i j:Int):Prop:=0<j /\ j<1073741824
def FC(i j:Int):Prop:=(-(2 ^ 64)<i /\ i<2 ^ 64) \/ (-(2 ^ 64)<j /\ j<2 ^ 64)
theorem FC.ok{i j:Int}(h:FC i j):IntMulOk i j:=by
 rcases h with⟨h1,h2⟩|⟨h1,h2⟩
 . exact .of_left (intBits_le_64 h1 h2)
 . exact .of_right (intBits_le_64 h1 h2)
theorem cf:OpR X (binaryOp .Add) (rI0 fun i j=>.int (i+j)):=LV fun _ _ _ _ _ _ _ q=>add_int q
theorem qZ:OpR X (binaryOp .Sub) (rI0 fun i j=>.int (i - j)):=LV fun _ _ _ _ _ _ _ q=>sub_int q
theorem tF:OpR X (binaryOp .Mult) (rI FC fun i j=>.int (i*j)):=opI fun _ _ _ _ _ _ _ hc q=>mul_int q hc.ok
theorem bS:OpR X (binaryOp .FloorDiv) (rI Ld fun i j=>.int (i/j)):=opI fun i j _ _ _ _ _ hc q=>by
 have h1:(0:Int)<j:=hc.1
 have h2:j<1073741824:=hc.2
 exact floordiv_int (by omega) (by rw[Int.fdiv_eq_ediv_of_nonneg i (by omega)];exact q) (.inl (PyProof.noPylong_small (by omega)))
theorem bP:OpR X (binaryOp .Mod) (rI (fun _ j=>0<j) fun i j=>.int (i%j)):=opI fun i j _ _ _ _ _ hc q=>by
 have h1:(0:Int)<j:=hc
 exact mod_int' (by omega) (by rw[Int.fmod_eq_emod_of_nonneg i (by omega)];exact q)
theorem unI{f:Value->Sem Value}{g:Int->Int}
  (rule:∀(i:Int) (t:Tok) (s:Shared) (Q:Value->Shared->Prop) (E:Value->Shared->Prop),Q (.int (g i) s.toks) { s with toks:=s.toks+1 }->wpAny (model X.prog X.w) X.A (f (.int i t)) Q E s):
  UnR X f (rU fun i=>.int (g i)):=by
 intro pins s σ H x v Q I rx h;obtain⟨i,rfl,q⟩:=h;obtain⟨t,rfl⟩:=rx;exact rule i t s _ _ ⟨.int (g i),H,I.tok _,⟨_,rfl⟩,q⟩
theorem jf:UnR X (unaryOp .USub) (rU fun i=>.int (-i)):=unI fun _ _ _ _ _ q=>neg_int q
end
def Kg:V->V->Bool
 |.non,.non=>true|.non,.int _=>true|.int _,.non=>true|.non,.bl _=>true|.bl _,.non=>true|.non,.str _=>true|.str _,.non=>true
 |.int _,.int _=>true|.bl _,.bl _=>true|.str _,.str _=>true|.byt _,.byt _=>true
 |.int _,.str _=>true|.str _,.int _=>true|.bl _,.str _=>true|.str _,.bl _=>true
 |_,_=>false
def rEq:R2:=fun x y H Q=>Kg x y=true /\ Q (.bl (decide (x=y))) H
def rNe:R2:=fun x y H Q=>Kg x y=true /\ Q (.bl (!decide (x=y))) H
theorem Cb{i j:Int}:decide (V.int i=V.int j)=(i==j):=by
 rw[Bool.eq_iff_iff];simp
theorem Fl{i j:Bool}:decide (V.bl i=V.bl j)=(i==j):=by
 rw[Bool.eq_iff_iff];simp
theorem Cf{i j:Str}:decide (V.str i=V.str j)=(i==j):=by
 rw[Bool.eq_iff_iff];simp
theorem BG{i j:Array UInt8}:decide (V.byt i=V.byt j)=(i.toList==j.toList):=by
 rw[Bool.eq_iff_iff];cases i;cases j;simp
section
variable{X:Cx}{a b c:Expr}{ta tb tc:TE}{pos:Pos}
theorem cU{pins:List (Addr×Obj)}{σ:St}{H:Hp}{s:Shared}{Q:VK}{k k':Bool}(I:Inv X pins σ H s)(q:Q (.bl k) H)(e:k=k'):EP X pins σ Q (.bool k') s:=by
 subst e
 exact⟨.bl k,H,I,rfl,q⟩
theorem bp:OpR X (compareOp .Eq) rEq:=by
 intro pins s σ H x y v u Q I rx ry h;obtain⟨hs,q⟩:=h
 cases x with
 | non=>
   cases rx
   cases y with
   |non=>cases ry;exact PySem.EqNone.eq_none_none (cU I q (by simp))
   |bl j=>cases ry;exact PySem.EqNone.eq_none_bool (cU I q (by simp))
   |int j=>obtain⟨t',rfl⟩:=ry;exact PySem.EqNone.eq_none_int (cU I q (by simp))
   |str j=>obtain⟨t',rfl⟩:=ry;exact PySem.EqNone.eq_none_str (cU I q (by simp))
   |_=>exact absurd (show false=true from hs) Bool.false_ne_true
 | bl i=>
   cases rx
   cases y with
   |non=>cases ry;exact PySem.EqNone.eq_bool_none (cU I q (by simp))
   |bl j=>cases ry;exact eq_bool (cU I q Fl)
   |str j=>obtain⟨t',rfl⟩:=ry;exact PySem.EqMixed.eq_bool_str (cU I q (by simp))
   |_=>exact absurd (show false=true from hs) Bool.false_ne_true
 | int i=>
   obtain⟨t,rfl⟩:=rx
   cases y with
   |non=>cases ry;exact PySem.EqNone.eq_int_none (cU I q (by simp))
   |int j=>obtain⟨t',rfl⟩:=ry;exact eq_int (cU I q Cb)
   |str j=>obtain⟨t',rfl⟩:=ry;exact PySem.EqMixed.eq_int_str (cU I q (by simp))
   |_=>exact absurd (show false=true from hs) Bool.false_ne_true
 | str i=>
   obtain⟨t,rfl⟩:=rx
   cases y with
   |non=>cases ry;exact PySem.EqNone.eq_str_none (cU I q (by simp))
   |bl j=>cases ry;exact PySem.EqMixed.eq_str_bool (cU I q (by simp))
   |int j=>obtain⟨t',rfl⟩:=ry;exact PySem.EqMixed.eq_str_int (cU I q (by simp))
   |str j=>obtain⟨t',rfl⟩:=ry;exact eq_str (cU I q Cf)
   |_=>exact absurd (show false=true from hs) Bool.false_ne_true
 | byt i=>
   obtain⟨t,rfl⟩:=rx
   cases y with
   |byt j=>obtain⟨t',rfl⟩:=ry;exact PySem.W.eq_bytes (cU I q BG)
   |_=>exact absurd (show false=true from hs) Bool.false_ne_true
 |_=>cases y<;>exact absurd (show false=true from hs) Bool.false_ne_true
theorem IZ:OpR X (compareOp .NotEq) rNe:=by
 intro pins s σ H x y v u Q I rx ry h;obtain⟨hs,q⟩:=h
 cases x with
 | non=>
   cases rx
   cases y with
   |non=>cases ry;exact PySem.EqNone.ne_none_none (cU I q (by simp))
   |bl j=>cases ry;exact PySem.EqNone.ne_none_bool (cU I q (by simp))
   |int j=>obtain⟨t',rfl⟩:=ry;exact PySem.EqNone.ne_none_int (cU I q (by simp))
   |str j=>obtain⟨t',rfl⟩:=ry;exact PySem.EqNone.ne_none_str (cU I q (by simp))
   |_=>exact absurd (show false=true from hs) Bool.false_ne_true
 | bl i=>
   cases rx
   cases y with
   |non=>cases ry;exact PySem.EqNone.ne_bool_none (cU I q (by simp))
   |bl j=>cases ry;exact ne_bool (cU I q (congrArg not Fl))
   |str j=>obtain⟨t',rfl⟩:=ry;exact PySem.EqMixed.ne_bool_str (cU I q (by simp))
   |_=>exact absurd (show false=true from hs) Bool.false_ne_true
 | int i=>
   obtain⟨t,rfl⟩:=rx
   cases y with
   |non=>cases ry;exact PySem.EqNone.ne_int_none (cU I q (by simp))
   |int j=>obtain⟨t',rfl⟩:=ry;exact ne_int (cU I q (congrArg not Cb))
   |str j=>obtain⟨t',rfl⟩:=ry;exact PySem.EqMixed.ne_int_str (cU I q (by simp))
   |_=>exact absurd (show false=true from hs) Bool.false_ne_true
 | str i=>
   obtain⟨t,rfl⟩:=rx
   cases y with
   |non=>cases ry;exact PySem.EqNone.ne_str_none (cU I q (by simp))
   |bl j=>cases ry;exact PySem.EqMixed.ne_str_bool (cU I q (by simp))
   |int j=>obtain⟨t',rfl⟩:=ry;exact PySem.EqMixed.ne_str_int (cU I q (by simp))
   |str j=>obtain⟨t',rfl⟩:=ry;exact ne_str (cU I q (congrArg not Cf))
   |_=>exact absurd (show false=true from hs) Bool.false_ne_true
 | byt i=>
   obtain⟨t,rfl⟩:=rx
   cases y with
   |byt j=>obtain⟨t',rfl⟩:=ry;exact PySem.W.ne_bytes (cU I q (congrArg not BG))
   |_=>exact absurd (show false=true from hs) Bool.false_ne_true
 |_=>cases y<;>exact absurd (show false=true from hs) Bool.false_ne_true
theorem kg:OpR X (compareOp .Lt) (rI0 fun i j=>.bl (decide (i<j))):=HC fun _ _ _ _ _ _ _ q=>lt_int q
theorem mq:OpR X (compareOp .LtE) (rI0 fun i j=>.bl (decide (i<=j))):=HC fun _ _ _ _ _ _ _ q=>le_int q
theorem wW:OpR X (compareOp .Gt) (rI0 fun i j=>.bl (decide (j<i))):=HC fun _ _ _ _ _ _ _ q=>gt_int q
theorem Cq:OpR X (compareOp .GtE) (rI0 fun i j=>.bl (decide (j<=i))):=HC fun _ _ _ _ _ _ _ q=>ge_int q
theorem sX:OpR X (compareOp .Is) (fun x y H Q=>y=.non /\ Q (.bl (decide (x=.non))) H):=by
 intro pins s σ H x y v u Q I rx ry h;obtain⟨rfl,q⟩:=h;cases ry;refine is_none_gen (cU I q ?_)
 cases x<;>first
  |(cases rx;rfl)
  |(obtain⟨t,rfl⟩:=rx;rfl)
theorem yN:OpR X (compareOp .IsNot) (fun x y H Q=>y=.non /\ Q (.bl (!decide (x=.non))) H):=by
 intro pins s σ H x y v u Q I rx ry h;obtain⟨rfl,q⟩:=h;cases ry;refine isnot_none_gen (cU I q ?_)
 cases x<;>first
  |(cases rx;rfl)
  |(obtain⟨t,rfl⟩:=rx;rfl)
theorem jO(b:Expr){op:CmpOp}(h:op≠.In:=by decide)(h2:op≠.NotIn:=by decide):behindInMarks op b=false:=by
 have e1:(op==CmpOp.In)=false:=by cases op<;>first|rfl|exact absurd rfl h
 have e2:(op==CmpOp.NotIn)=false:=by cases op<;>first|rfl|exact absurd rfl h2
 cases b<;>simp[behindInMarks,e1,e2]
theorem HX{op:CmpOp}{r:R2}(ho:OpR X (compareOp op) r)(ha:PE X a ta)(hb:PE X b tb)(hm:behindInMarks op b=false):PE X (.Compare a [op] [b] pos) (tOp r ta tb):=by
 intro pins s σ H Q I h;exact wpAny_Compare1 (Jt ha hb I h fun v u s2 x y H2 I2 rx ry q=>ho pins s2 σ H2 x y v u Q I2 rx ry q) hm
def xh(t:TE):TT:=fun σ H Q=>t σ H fun x H'=>∃ k,x=.bl k /\ Q k H'
theorem Hh{op:CmpOp}{r:R2}(ho:OpR X (compareOp op) r)(ha:PE X a ta)(hb:PE X b tb)(hm:behindInMarks op b=false):PT X (.Compare a [op] [b] pos) (xh (tOp r ta tb)):=by
 intro pins s σ H Q I h
 refine wpAny_isTrue_Compare1 (thn (ha pins s σ H _ I h) fun v s1 ⟨x,H1,I1,r1,q1⟩=>thn (hb pins s1 σ H1 _ I1 q1) fun u s2 ⟨y,H2,I2,r2,q2⟩=>
  thn (ho pins s2 σ H2 x y v u _ I2 r1 r2 q2) fun c s3 ⟨z,H3,I3,r3,k,e,q3⟩=>?_) hm
 subst e;cases r3;exact wpAny_truthy_bool ⟨H3,I3,q3⟩
def vI(r r':R2)(ta tb tc:TE):TE:=fun σ H Q=>ta σ H fun x H1=>tb σ H1 fun y H2=>r x y H2 fun z H3=>∃ k,z=.bl k /\
 (if k=true then tc σ H3 fun w' H4=>r' y w' H4 Q else Q (.bl false) H3)
theorem Fe{op op':CmpOp}{r r':R2}(ho:OpR X (compareOp op) r)(ho':OpR X (compareOp op') r')(ha:PE X a ta)(hb:PE X b tb)(hc:PE X c tc)
  (hm:lastMarks [op,op'] [b,c]=false:=by with_unfolding_all rfl):PE X (.Compare a [op,op'] [b,c] pos) (vI r r' ta tb tc):=by
 intro pins s σ H Q I h
 refine Compare_chain (thn (ha pins s σ H _ I h) fun v s1 ⟨x,H1,I1,r1,q1⟩=>chain_link (thn (hb pins s1 σ H1 _ I1 q1) fun u s2 ⟨y,H2,I2,r2,q2⟩=>
  thn (ho pins s2 σ H2 x y v u _ I2 r1 r2 q2) fun d s3 ⟨z,H3,I3,r3,k,e,q3⟩=>?_)) hm
 subst e;cases r3;refine wpAny_truthy_bool ?_
 cases k with
 |false=>exact ite_ff ⟨.bl false,H3,I3,rfl,q3⟩
 |true=>exact ite_tt (chain_last (thn (hc pins s3 σ H3 _ I3 q3) fun w' s4 ⟨z',H4,I4,r4,q4⟩=>ho' pins s4 σ H4 y z' u w' Q I4 r2 r4 q4))
theorem Fv{op op':CmpOp}{r r':R2}(ho:OpR X (compareOp op) r)(ho':OpR X (compareOp op') r')(ha:PE X a ta)(hb:PE X b tb)(hc:PE X c tc)
  (hm:lastMarks [op,op'] [b,c]=false:=by with_unfolding_all rfl):PT X (.Compare a [op,op'] [b,c] pos) (xh (vI r r' ta tb tc)):=by
 intro pins s σ H Q I h
 refine isTrue_chain (thn (ha pins s σ H _ I h) fun v s1 ⟨x,H1,I1,r1,q1⟩=>test_link (thn (hb pins s1 σ H1 _ I1 q1) fun u s2 ⟨y,H2,I2,r2,q2⟩=>
  thn (ho pins s2 σ H2 x y v u _ I2 r1 r2 q2) fun d s3 ⟨z,H3,I3,r3,k,e,q3⟩=>?_)) hm
 subst e;cases r3;refine wpAny_truthy_bool ?_
 cases k with
 | false=>
   obtain⟨k',e',q'⟩:=q3
   cases e'
   exact ite_ff ⟨H3,I3,q'⟩
 | true=>
   refine ite_tt (test_last (thn (hc pins s3 σ H3 _ I3 q3) fun w' s4 ⟨z',H4,I4,r4,q4⟩=>thn (ho' pins s4 σ H4 y z' u w' _ I4 r2 r4 q4) fun d' s5 ⟨z2,H5,I5,r5,k2,e2,q5⟩=>?_));subst e2;cases r5;exact wpAny_truthy_bool ⟨H5,I5,q5⟩
def AY(K:PySem.W.Frag)(x:V)(H:Hp)(k:Bool):Prop:=
 match x with
 |.non=>k=false
 |.bl b=>k=b
 |.int i=>k=(i != 0)
 |.str y=>y.length<=sizeLine /\ k=((y.length:Int) != 0)
 |.byt y=>y.size<=sizeLine /\ k=((y.size:Int) != 0)
 |.ref p=>(∃ xs,SqL K H p xs /\ k=!xs.isEmpty) \/ (∃ xs,SqT K H p xs /\ k=!xs.isEmpty) \/ ∃ kvs,H p=some (.dK kvs) /\ k=!kvs.isEmpty
 |_=>False
theorem A2{κ:Type}{kvs:List (κ×V)}{vs:List (κ×Value)}(r:KV kvs vs):(!vs.isEmpty)=!kvs.isEmpty:=by
 cases r<;>rfl
theorem vj{xs:List V}{its:List Value}(r:Vals xs its):(!its.toArray.isEmpty)=!xs.isEmpty:=by
 cases r<;>simp
theorem vU:(sizeLine:Nat)<2 ^ 63:=by rw[sizeLine_eq];decide
theorem Ko:Nn X (fun x H Q=>∃ k,AY X.K x H k /\ Q k H):=by
 intro pins s σ H x v Q I rx h;obtain⟨k,e,q⟩:=h;have hl:=vU
 have hs:sizeLine=16777216:=sizeLine_eq
 cases x with
 | non=>
   cases rx
   have e':k=false:=e
   subst e';exact truthy_none ⟨H,I,q⟩
 | bl b=>
   cases rx
   have e':k=b:=e
   subst e';exact wpAny_truthy_bool ⟨H,I,q⟩
 | int i=>
   obtain⟨t,rfl⟩:=rx
   have e':k=(i != 0):=e
   subst e';exact PySem.P.truthy_int ⟨H,I,q⟩
 | str y=>
   obtain⟨t,rfl⟩:=rx
   obtain⟨hy,e'⟩:y.length<=sizeLine /\ k=((y.length:Int) != 0):=e
   subst e';exact PySem.P.truthy_str (by omega) ⟨H,I.tok _,q⟩
 | byt y=>
   obtain⟨t,rfl⟩:=rx
   obtain⟨hy,e'⟩:y.size<=sizeLine /\ k=((y.size:Int) != 0):=e
   subst e';exact PySem.W.truthy_bytes (by omega) ⟨H,I.tok _,q⟩
 | ref p=>
   cases rx
   have e':(∃ xs,SqL X.K H p xs /\ k=!xs.isEmpty) \/ (∃ xs,SqT X.K H p xs /\ k=!xs.isEmpty) \/ ∃ kvs,H p=some (.dK kvs) /\ k=!kvs.isEmpty:=e
   rcases e' with⟨xs,hx,e'⟩|⟨xs,hx,e'⟩|⟨kvs,hx,e'⟩
   . subst e';obtain⟨its,r,pl,hz⟩:=I.list hx;have hlen:=r.length;exact wpAny_truthy_list pl.isList (by simp only[List.size_toArray];omega) ⟨H,I.tok _,by rw[vj r];exact q⟩
   . subst e';obtain⟨its,r,pl,hz⟩:=I.tuple hx;have hlen:=r.length;exact truthy_tuple pl (by simp only[List.size_toArray];omega) ⟨H,I.tok _,by rw[vj r];exact q⟩
   . subst e'
     obtain⟨hz,hS,vs,r,m⟩:kvs.length<=sizeLine /\ (p==sysModules)=false /\ ∃ vs,KV kvs vs /\ s.heap.DictOf (fP X.prog X.w) p vs:=I.hok p _ hx
     have hlen:kvs.length=vs.length:=Paired.length r
     exact wpAny_truthy_dict hS m (by omega) ⟨H,I.tok _,by rw[A2 r];exact q⟩
 |_=>exact(show False from e).elim
theorem ES(ha:PE X a ta)(he:∀ whole,isTrue a X.env whole=(do let v <- whole;standAt a.pos;holding [v] (truthy v))):
  PT X a (fun σ H Q=>ta σ H fun x H'=>∃ k,AY X.K x H' k /\ Q k H'):=by
 intro pins s σ H Q I h;exact isTrue_plain (thn (ha pins s σ H _ I h) fun v s1 ⟨x,H1,I1,r1,q1⟩=>Ko pins s1 σ H1 x v Q I1 r1 q1) (he _)
theorem vals1{x:V}{us:List Value}(r:Vals [x] us):∃ u,us=[u] /\ RelV x u:=by
 cases r with
 |cons r1 r2=>cases r2;exact⟨_,rfl,r1⟩
theorem xp:oI X (.type "int") (fun xs H Q=>(∃ i,xs=[.int i] /\ Q (.int i) H) \/ ∃ k,xs=[.bl k] /\ Q (.int (if k then 1 else 0)) H):=by
 intro pins s σ H xs us Q I r h
 rcases h with⟨i,rfl,q⟩|⟨k,rfl,q⟩
 . obtain⟨u,rfl,t,rfl⟩:=vals1 r;exact call_int_int ⟨.int i,H,I,⟨_,rfl⟩,q⟩
 . obtain⟨u,rfl,r1⟩:=vals1 r;cases r1;exact call_int_bool ⟨.int (if k then 1 else 0),H,I.tok _,⟨_,rfl⟩,q⟩
theorem sJ:oI X (.type "str") (fun xs H Q=>∃ i,xs=[.int i] /\ i.natAbs.log2<1920 /\ Q (.str (toString i)) H):=by
 intro pins s σ H xs us Q I r h;obtain⟨i,rfl,hz,q⟩:=h;obtain⟨u,rfl,t,rfl⟩:=vals1 r;exact PySem.P.str_of_int hz ⟨.str _,H,I.tok _,⟨_,rfl⟩,q⟩
theorem E8:oI X (.builtin "ord") (fun xs H Q=>∃ x,xs=[.str x] /\ x.length=1 /\ Q (.int (x.cps.getD 0 0:Nat)) H):=by
 intro pins s σ H xs us Q I r h;obtain⟨x,rfl,hz,q⟩:=h;obtain⟨u,rfl,t,rfl⟩:=vals1 r;exact ord_of_one hz ⟨.int _,H,I.tok _,⟨_,rfl⟩,q⟩
end
structure Bc(h:Heap)(x dx C:Addr)(mA:Str->Option Value):Prop where
 obj:h.get? x=some (PySem.W.instObj C dx)
 ns:h.Ns1 dx mA
 ne:dx≠x
theorem Dv{h:Heap}{dx:Addr}{mA:Str->Option Value}(n:h.Ns1 dx mA):∃ od,h.get? dx=some od /\ ∀ name,PySem.W.lookIn name od=some (mA name):=by
 obtain⟨o,es,ep,ho,hd,hk,_,hm⟩:=n
 refine⟨o,ho,fun name=>?_⟩
 have e:=hm name;unfold nsFind findBy at e;rw[<- Array.find?_toList]at e;unfold PySem.W.lookIn;rw[hd];dsimp only;split
 . rename_i y q;rw[q]at e;exact congrArg some e
 . rename_i q;rw[q]at e
   have a:es.toList.any (·.refKey)=false:=by
    rw[List.any_eq_false];intro y hy;obtain⟨z,t,hkey⟩:=hk y (Array.mem_toList_iff.mp hy);simp[DictEntry.refKey,hkey]
   have a':¬ es.toList.any (·.refKey)=true:=by rw[a];exact Bool.false_ne_true
   rw[if_neg a'];exact congrArg some e
theorem Bc.look{h:Heap}{x dx C:Addr}{mA:Str->Option Value}(I:Bc h x dx C mA):∃ od,PySem.W.InstAt h x (PySem.W.instObj C dx) C (some od) /\ ∀ name,PySem.W.lookIn name od=some (mA name):=
 let ⟨od,ho,hl⟩:=Dv I.ns
 ⟨od,⟨I.obj,rfl,rfl,ho⟩,hl⟩
section
variable{prog:Program}{w:World}{A:Around}{E:Value->Shared->Prop}{s:Shared}{K:PySem.W.Frag}{x dx C f:Addr}{mA:Str->Option Value}{name:Str}{v:Value}
theorem get_map{expr:Bool}{Q:Value->Shared->Prop}(X:K.In s.heap)(I:Bc s.heap x dx C mA)(hg:PySem.W.plainGet K C name=true)(hh:PySem.W.hasDictIn K C=true)
  (ha:PySem.W.findIn K (.ref C) name=some none) (hv:mA name=some v) (hv':PySem.W.handedIn v=true) (h:Q v { s with toks:=s.toks+1 }):
  wpAny (model prog w) A (getAttr (.ref x) name expr) Q E s:=by
 obtain⟨od,J,hl⟩:=I.look;exact PySem.W.get_value X J (PySem.W.plainGet_of hg).1 (PySem.W.findObj_own hh ha rfl (by rw[hl,hv])) hv' h
theorem EH{pl:Sem Bool}{Q:Value×List Value->Shared->Prop}(X:K.In s.heap)(I:Bc s.heap x dx C mA)(hg:PySem.W.plainGet K C name=true)
  (hf:PySem.W.findIn K (.ref C) name=some (some (.ref f))) (ht:PySem.W.isFn K (.ref f)=true) (hv:mA name=none) (h:Q (.ref f,[.ref x]) s):
  wpAny (model prog w) A (getMethod (.ref x) name pl) Q E s:=by
 obtain⟨od,J,hl⟩:=I.look;exact PySem.W.method_fn X J (PySem.W.plainGet_of hg).1 (PySem.W.plainGet_of hg).2 hf (beq_iff_eq.mp ht) (by show(PySem.W.lookIn name od).map (·.isSome)=some false;rw[hl,hv];rfl) h
theorem HQ{ns:List Str}{Q:Unit->Shared->Prop}(X:K.In s.heap)(I:Bc s.heap x dx C mA)
  (hs:PySem.W.findIn K (.ref C) "__setattr__" = some (some (.builtin "object.__setattr__"))) (hp:PySem.W.plainOver K C=true) (ht:PySem.W.takerIn K C name=some none) (hh:PySem.W.hasDictIn K C=true)
  (hw:PySem.Within mA ns) (hsz:ns.length<=sizeLine)
  (h:∀ h',Bc h' x dx C (fun y=>if y=name then some v else mA y)->Heap.SameBut dx s.heap h'->Q () { s with heap:=h',toks:=s.toks+2 }):
  wpAny (model prog w) A (setAttr (.ref x) name v) Q E s:=by
 obtain⟨od,J,hl⟩:=I.look;refine PySem.W.set_plain X J hs (PySem.W.osa_open (s:={ s with toks:=s.toks+1 }) (r:=none) X J hp ht fun b=>?_);obtain⟨cd,hc,hd'⟩:=PySem.W.any_some hh
 have hx:s.heap.get? x=some ⟨.ref C,some dx,.plain,#[]⟩:=I.obj
 refine wpAny_bind (wpAny_pure (wpAny_bind (wpAny_bind (wpAny_loadPart hx (wpAny_bind (PySem.W.Looks.here (s:={ s with toks:=s.toks+1 }) (PySem.W.looks_clsIn X hc) ?_))))));rw[hd'];refine wpAny_pure (a:=some dx) (wpAny_bind (wpAny_pure (wpAny_bind ?_)))
 refine wpAny_nsSet1 (s:={ s with toks:=s.toks+1 }) I.ns fun h' hn2 hs2=>?_
 obtain⟨oD,esD,epD,hoD,hdD,hcD⟩:=hn2.count (PySem.Within.cons name v hw);refine wpAny_bind (wpAny_lookBehind hoD (by rw[hdD];exact pastItsLine_dict (Nat.le_trans hcD (by rw[List.length_cons];omega))) ?_);exact wpAny_pure (h _ ⟨(hs2.2 _ (Ne.symm I.ne)).trans I.obj,hn2,I.ne⟩ hs2)
theorem FW{R:Result->Shared->Prop}{vs:List Value}{kw:List (Str×Value)}(X:K.In s.heap)(hm:PySem.W.makesIn K C=true)
  (hi:PySem.W.findIn K (.ref C) "__init__" = some (some (.ref f))) (hf:PySem.W.typeIn K (.ref f)=some (.type "function"))
  (h:codeAny (model prog w) (A.under (.builtin "type.__call__" ⟨.ref C ::vs,kw⟩)) (.call (.ref f) ⟨.ref (s.heap.objs.size+1) ::vs,kw⟩) (PySem.W.InitBack (s.heap.objs.size+1) R)
    { s with heap:=(s.heap.push PySem.W.emptyDict).push (PySem.W.instObj C s.heap.objs.size) }):
  codeAny (model prog w) A (.call (.ref C) ⟨vs,kw⟩) R s:=by
 obtain⟨hh,g,d,t,os⟩:=s;exact PySem.W.make_core (PySem.W.makes_of X hm) (PySem.W.looks_findIn X hi) (fun self=>PySem.W.bind_fn X self hf) (.inl rfl) h
end
def kq(f:Str)(v:V):List (Str×V)->List (Str×V)
 |[]=>[(f,v)]
 |(g,x) ::r=>if g=f then(g,v) ::r else(g,x) ::kq f v r
theorem uA(f g:Str)(v:V):∀ fs:List (Str×V),(kq f v fs).lookup g=if g=f then some v else fs.lookup g
 | []=>by
   show List.lookup g [(f,v)]=_
   by_cases h:g=f
   . have hb:(g==f)=true:=beq_iff_eq.mpr h
     simp only[List.lookup,hb,if_pos h]
   . have hb:(g==f)=false:=beq_eq_false_iff_ne.mpr h
     simp only[List.lookup,hb,if_neg h]
 | (k,x) ::r=>by
   have ih:=uA f g v r;rw[show kq f v ((k,x) ::r)=(if k=f then(k,v) ::r else(k,x) ::kq f v r) from rfl]
   by_cases hk:k=f
   . rw[if_pos hk]
     by_cases h:g=k
     . have hb:(g==k)=true:=beq_iff_eq.mpr h
       simp only[List.lookup,hb,if_pos (h.trans hk)]
     . have hb:(g==k)=false:=beq_eq_false_iff_ne.mpr h
       simp only[List.lookup,hb,if_neg (fun e:g=f=>h (e.trans hk.symm))]
   . rw[if_neg hk]
     by_cases h:g=k
     . have hb:(g==k)=true:=beq_iff_eq.mpr h
       simp only[List.lookup,hb,if_neg (fun e:g=f=>hk (h.symm.trans e))]
     . have hb:(g==k)=false:=beq_eq_false_iff_ne.mpr h
       simp only[List.lookup,hb];exact ih
theorem ue(f:Str)(v:V):∀ fs:List (Str×V),f∈(kq f v fs).map (·.1) /\ ∀ g,g∈fs.map (·.1)->g∈(kq f v fs).map (·.1)
 |[]=>⟨by simp[kq],fun g h=>by simp at h⟩
 | (k,x) ::r=>by
   obtain⟨i1,i2⟩:=ue f v r;rw[show kq f v ((k,x) ::r)=(if k=f then(k,v) ::r else(k,x) ::kq f v r) from rfl]
   by_cases hk:k=f
   . rw[if_pos hk];subst hk
     exact⟨by simp,fun g h=>by simpa using h⟩
   . rw[if_neg hk]
     refine⟨?_,fun g h=>?_⟩
     . rw[List.map_cons];exact List.mem_cons_of_mem _ i1
     . rw[List.map_cons]at h ⊢
       rcases List.mem_cons.mp h with e|e
       . exact List.mem_cons.mpr (.inl e)
       . exact List.mem_cons_of_mem _ (i2 g e)
theorem ui(f:Str)(v:V):∀ fs:List (Str×V),(kq f v fs).length<=fs.length+1
 |[]=>by simp[kq]
 | (k,x) ::r=>by
   have ih:=ui f v r;rw[show kq f v ((k,x) ::r)=(if k=f then(k,v) ::r else(k,x) ::kq f v r) from rfl]
   by_cases hk:k=f
   . rw[if_pos hk,List.length_cons,List.length_cons];omega
   . rw[if_neg hk,List.length_cons,List.length_cons];omega
theorem bx.some_of{v:V}{o:Option Value}(r:bx (some v) o):∃ u,o=some u /\ RelV v u:=by
 cases o with
 |none=>exact(show False from r).elim
 |some u=>exact⟨u,rfl,r⟩
theorem bx.none_of{o:Option Value}(r:bx none o):o=none:=by
 cases o with
 |none=>rfl
 |some u=>exact(show False from r).elim
theorem C8{v:V}{u:Value}(r:RelV v u):PySem.W.handedIn u=true:=by
 cases v with
 |non=>cases(show u=Value.none from r);rfl
 |bl b=>cases(show u=Value.bool b from r);rfl
 |int i=>obtain⟨t,e⟩:=(show ∃ t,u=Value.int i t from r);cases e;rfl
 |str x=>obtain⟨t,e⟩:=(show ∃ t,u=Value.str x t from r);cases e;rfl
 |byt b=>obtain⟨t,e⟩:=(show ∃ t,u=Value.bytes b t from r);cases e;rfl
 |flt b=>obtain⟨t,e⟩:=(show ∃ t,u=Value.float b t from r);cases e;rfl
 |ref a=>cases(show u=Value.ref a from r);rfl
 |ty n=>cases(show u=Value.type n from r);rfl
section
variable{P:Program}{w:World}{H H':Hp}{h h':Heap}{a C dx:Addr}{fs fs':List (Str×V)}
theorem yd(hok:HOk P w H h)(e:H a=some (.ins C dx fs)):∃ mA,Bc h a dx C mA /\ (∀ f,bx (fs.lookup f) (mA f)) /\ PySem.Within mA (fs.map (·.1)) /\ fs.length<=1000 /\ H dx=some (.own a):=by
 obtain⟨d,z,ne,ob,mA,n,r,q⟩:=(show gq P w H h a (.ins C dx fs) from hok a _ e)
 exact⟨mA,⟨ob,n,ne⟩,r,q,z,d⟩
end
structure Cls(K:PySem.W.Frag)(C:Addr):Prop where
 pg:PySem.W.plainGet K C Str.empty=true
 hd:PySem.W.hasDictIn K C=true
 po:PySem.W.plainOver K C=true
 sa:PySem.W.findIn K (.ref C) "__setattr__" = some (some (.builtin "object.__setattr__"))
theorem Cls.get{K:PySem.W.Frag}{C:Addr}(c:Cls K C)(f:Str):PySem.W.plainGet K C f=true:=c.pg
def mQ(K:PySem.W.Frag)(C:Addr)(f:Str):Prop:=PySem.W.findIn K (.ref C) f=some none
theorem mQ.L1{K:PySem.W.Frag}{C:Addr}{f:Str}(n:mQ K C f):PySem.W.takerIn K C f=some none:=by
 unfold PySem.W.takerIn;rw[show PySem.W.findIn K (.ref C) f=some none from n];rfl
structure Meth(K:PySem.W.Frag)(C:Addr)(m:Str)(f:Addr):Prop where
 at_:PySem.W.findIn K (.ref C) m=some (some (.ref f))
 fn:PySem.W.isFn K (.ref f)=true
 kp:PySem.W.keepIn K (.ref f)=true
section
variable{X:Cx}{pins:List (Addr×Obj)}{σ:St}{H:Hp}{s:Shared}{a C dx:Addr}{fs:List (Str×V)}{f:Str}{v:V}{A:Around}{E:Value->Shared->Prop}
theorem AM{b:Bool}{Q:Value->Shared->Prop}(I:Inv X pins σ H s)(e:H a=some (.ins C dx fs))(c:Cls X.K C)(n:mQ X.K C f)(l:fs.lookup f=some v)
  (h:∀ u s',Inv X pins σ H s'->RelV v u->Q u s'):wpAny (model X.prog X.w) A (getAttr (.ref a) f b) Q E s:=by
 obtain⟨mA,O,r,_,_,_⟩:=yd I.hok e;obtain⟨u,hu,ru⟩:=bx.some_of (v:=v) (o:=mA f) (by rw[<- l];exact r f);exact get_map I.kIn O (c.get f) c.hd n hu (C8 ru) (h u _ (I.tok _) ru)
theorem vJ{m:Str}{g:Addr}{pl:Sem Bool}{Q:Value×List Value->Shared->Prop}(I:Inv X pins σ H s)(e:H a=some (.ins C dx fs))(c:Cls X.K C)(k:Meth X.K C m g)(l:fs.lookup m=none)
  (h:Q (.ref g,[.ref a]) s):wpAny (model X.prog X.w) A (getMethod (.ref a) m pl) Q E s:=by
 obtain⟨mA,O,r,_,_,_⟩:=yd I.hok e
 have hn:mA m=none:=bx.none_of (by rw[<- l];exact r m)
 exact EH I.kIn O (c.get m) k.at_ k.fn hn h
theorem AB{y:V}{u:Value}{Q:Unit->Shared->Prop}(I:Inv X pins σ H s)(e:H a=some (.ins C dx fs))(c:Cls X.K C)(n:mQ X.K C f)(hl:fs.length<1000)(ry:RelV y u)
  (h:∀ s',Inv X pins σ (upd H a (.ins C dx (kq f y fs))) s'->Q () s'):wpAny (model X.prog X.w) A (setAttr (.ref a) f u) Q E s:=by
 obtain⟨mA,O,r,wi,_,ho⟩:=yd I.hok e
 have hz:(fs.map (·.1)).length<=sizeLine:=by rw[List.length_map,sizeLine_eq];omega
 refine HQ I.kIn O c.sa c.po n.L1 c.hd wi hz fun h' O' sb=>h _ ?_
 have hd:∃ o,h'.get? dx=some o:=let ⟨o,_,_,e',_⟩:=O'.ns;⟨o,e'⟩
 refine I.write (x:=a) (e:=dx) (by rw[e];exact True.intro) (.inr ho) (fun b q hb z=>(sb.2 b hb).trans z) hd ?_
 refine⟨by rw[bL O.ne];exact ho,?_,O.ne,O'.obj,_,O'.ns,fun g=>?_,fun g hg=>?_⟩
 . have:=ui f y fs;omega
 . show bx ((kq f y fs).lookup g) (if g=f then some u else mA g);rw[uA]
   by_cases q:g=f
   . rw[if_pos q,if_pos q];exact ry
   . rw[if_neg q,if_neg q];exact r g
 . by_cases q:g=f
   . rw[q];exact(ue f y fs).1
   . refine(ue f y fs).2 g (wi g fun z=>hg ?_)
     show(if g=f then some u else mA g)=none
     rw[if_neg q];exact z
theorem Inv.made(I:Inv X pins σ H s):Inv X pins σ (upd (upd H s.heap.objs.size (.own (s.heap.objs.size+1))) (s.heap.objs.size+1) (.ins C s.heap.objs.size []))
  { s with heap:=(s.heap.push PySem.W.emptyDict).push (PySem.W.instObj C s.heap.objs.size) }:=by
 have e1:(s.heap.push PySem.W.emptyDict).get? s.heap.objs.size=some PySem.W.emptyDict:=Heap.get?_push_size s.heap rfl
 have e2:((s.heap.push PySem.W.emptyDict).push (PySem.W.instObj C s.heap.objs.size)).get? (s.heap.objs.size+1)=some (PySem.W.instObj C s.heap.objs.size):=by
  have:=Heap.get?_push_size (s.heap.push PySem.W.emptyDict) (o:=PySem.W.instObj C s.heap.objs.size) rfl
  rwa [Heap.size_push]at this
 have e3:(s.heap.push PySem.W.emptyDict).Ns s.heap.objs.size (fun _=>none):=⟨PySem.W.emptyDict,#[],_,e1,rfl,(fun e he=>absurd he (by simp)),fun _=>rfl⟩
 have I1:=I.laid (a:=s.heap.objs.size) (o:=.own (s.heap.objs.size+1)) (h':=s.heap.push PySem.W.emptyDict) (t':=s.toks) (fun b u q=>Heap.get?_push_of_some _ q) (Nat.le_refl _) ⟨_,e1⟩;refine I1.laid (a:=s.heap.objs.size+1) (o:=.ins C s.heap.objs.size []) (t':=s.toks) (fun b u q=>Heap.get?_push_of_some _ q) (Nat.le_of_eq (Heap.size_push _ _)) ?_
 have ne:s.heap.objs.size≠s.heap.objs.size+1:=Nat.ne_of_lt (Nat.lt_succ_self _)
 refine⟨by rw[bL ne,bQ],Nat.zero_le _,ne,e2,fun _=>none,(Heap.Ns1.of_empty e3).at fun o q=>Heap.get?_push_of_some _ q,fun _=>True.intro,fun y hy=>absurd rfl hy⟩
theorem G2{prog:Program}{w:World}{env:Env}{e:Expr}{f:Str}{pos:Pos}{s:Shared}{Q:Value->Shared->Prop}(hb:attributeBase e f env (eval e env)=eval e env)
  (h:wpAny (model prog w) A (eval e env) (fun o s₁=>wpAny (model prog w) A (getAttr o f true) Q E s₁) E s):wpAny (model prog w) A (eval (.Attribute e f pos) env) Q E s:=
 Attribute_any_ h (by rw[arm_eval_Attribute,hb])
end
def Jm(K:PySem.W.Frag)(ta:TE)(f:Str):TE:=fun σ H Q=>ta σ H fun x H1=>∃ a C dx fs v,x=.ref a /\ H1 a=some (.ins C dx fs) /\ Cls K C /\ mQ K C f /\ fs.lookup f=some v /\ Q v H1
def Kj(K:PySem.W.Frag)(ta tv:TE)(f:Str):TS:=fun D σ H=>tv σ H fun y H1=>ta σ H1 fun x H2=>∃ a C dx fs,x=.ref a /\ H2 a=some (.ins C dx fs) /\ Cls K C /\ mQ K C f /\ fs.length<1000 /\
 D.nx σ (upd H2 a (.ins C dx (kq f y fs)))
section
variable{X:Cx}{o e value:Expr}{f:Str}{pos pos' tpos:Pos}{ta tv:TE}
theorem KH(he:PE X e ta)(hb:attributeBase e f X.env (eval e X.env)=eval e X.env):PE X (.Attribute e f pos) (Jm X.K ta f):=by
 intro pins s σ H Q I h;refine G2 hb (thn (he pins s σ H _ I h) fun u s1 ⟨x,H1,I1,rx,a,C,dx,fs,v,ex,ea,c,n,l,q⟩=>?_);subst ex
 obtain rfl:u=Value.ref a:=rx
 exact AM I1 ea c n l fun u' s2 I2 ru=>⟨v,H1,I2,ru,q⟩
theorem KA(ha:PE X o ta)(hv:PE X value tv)(hs:swapsWith value (some (.Attribute o f pos')) pos.line X.env=pure false):PS X (.Assign [.Attribute o f pos'] value pos) (Kj X.K ta tv f):=by
 intro pins s σ H D I h;refine plainObj_wpAny_Assign_Attribute (thn (hv pins s σ H _ I h) fun u s1 ⟨y,H1,I1,ry,q⟩=>thn (ha pins s1 σ H1 _ I1 q) fun ov s2 ⟨x,H2,I2,rx,a,C,dx,fs,ex,ea,c,n,l,q2⟩=>?_) hs;subst ex
 obtain rfl:ov=Value.ref a:=rx
 exact AB I2 ea c n l ry fun s3 I3=>⟨σ,_,I3,q2⟩
end
structure ik(k:Nat)(A:Around):Prop where
 hd:A.handled=none
 dp:A.depth+3*k+5<recursionLimit
 un:A.units+16*k+200<cLine
theorem ik.mono{j k:Nat}{A:Around}(r:ik k A)(h:j<=k):ik j A:=⟨r.hd,by have:=r.dp;omega,by have:=r.un;omega⟩
theorem ik.deeper{k:Nat}{A:Around}(r:ik (k+1) A)(env:Env):ik k (A.deeper env):=
 ⟨r.hd,by have:=r.dp;show A.depth+1+3*k+5<_;omega,by have:=r.un;show A.units+3+16*k+200<_;omega⟩
theorem Bh{A:Around}{C:Addr}{us:List Value}{kw:List (Str×Value)}:(A.under (.builtin "type.__call__" ⟨.ref C ::us,kw⟩)).depth=A.depth+1:=by
 first|rfl|simp[Around.under,Code.weight,Code.isCreation,Code.isGuard,Code.isCaller,Code.frames,Code.isFrame,guardIds]
theorem Ay{A:Around}{C:Addr}{us:List Value}{kw:List (Str×Value)}:(A.under (.builtin "type.__call__" ⟨.ref C ::us,kw⟩)).units=A.units+1:=by
 first|rfl|simp[Around.under,Code.cUnits,Code.frames,Code.isFrame]
theorem ik.make{k:Nat}{A:Around}(r:ik (k+1) A)(C:Addr)(us:List Value)(kw:List (Str×Value)):ik k (A.under (.builtin "type.__call__" ⟨.ref C ::us,kw⟩)):=
 ⟨r.hd,by have:=r.dp;rw[Bh];omega,by have:=r.un;rw[Ay];omega⟩
theorem ik.depth{k:Nat}{A:Around}(r:ik k A):A.depth<recursionLimit:=by have:=r.dp;omega
theorem ik.units{k:Nat}{A:Around}(r:ik k A):A.units+64<cLine:=by have:=r.un;omega
def kL:TA:=fun _ H Q=>Q [] H
def iY(ta:TE)(tr:TA):TA:=fun σ H Q=>ta σ H fun x H1=>tr σ H1 fun xs H2=>Q (x ::xs) H2
section
variable{X:Cx}{e:Expr}{es:List Expr}{te:TE}{t:TA}{pos:Pos}
theorem Lg:PA X [] kL:=fun _ _ _ _ H Q I h=>Calls.spliced_nil ⟨[],H,I,.nil,h⟩
theorem Hx(ha:PE X e te)(hr:PA X es t)(hs:starEach (e ::es) X.env=(false,eval e X.env) ::starEach es X.env:=by rfl):PA X (e ::es) (iY te t):=by
 intro pos pins s σ H Q I h;rw[hs];show wpAny _ _ (spliced ((false,eval e X.env) ::backTo pos (starEach es X.env))) _ _ s;refine Calls.spliced_cons (thn (ha pins s σ H _ I h) fun u s1 ⟨x,H1,I1,r1,q1⟩=>?_)
 exact thn (hr pos pins s1 σ H1 _ I1 q1) fun us s2 ⟨xs,H2,I2,r2,q2⟩=>⟨x ::xs,H2,I2,.cons r1 r2,q2⟩
def Lx(t:TA):TE:=fun σ H Q=>t σ H fun xs H1=>xs.length<=sizeLine /\ ∀ p,H1 p=none->Q (.ref p) (upd H1 p (.tup xs))
def HN(t:TA):TE:=fun σ H Q=>t σ H fun xs H1=>xs.length<=sizeLine /\ ∀ p,H1 p=none->Q (.ref p) (upd H1 p (.lst xs))
theorem JZ{x1}(h:PA X es t):PE X (.Tuple es x1 pos) (Lx t):=by
 intro pins s σ H Q I hq;refine wpAny_Tuple_spliced (thn (h pos pins s σ H _ I hq) fun us s1 ⟨xs,H1,I1,r,z,q⟩=>⟨by rw[<- r.length];exact z,?_⟩)
 have hf:H1 s1.heap.objs.size=none:=I1.hok.fresh (Nat.le_refl _)
 refine⟨.ref s1.heap.objs.size,upd H1 s1.heap.objs.size (.tup xs),I1.laid (t':=s1.toks) (fun b u e=>Heap.get?_push_of_some _ e) (Nat.le_refl _) ?_,rfl,q _ hf⟩
 exact⟨z,us,r,⟨_,Heap.get?_push_size _ rfl,rfl,_,rfl⟩⟩
theorem JB(h:PA X es t):PE X (.List es pos) (HN t):=by
 intro pins s σ H Q I hq;refine wpAny_List_spliced (thn (h pos pins s σ H _ I hq) fun us s1 ⟨xs,H1,I1,r,z,q⟩=>⟨by rw[<- r.length];exact z,?_⟩)
 have hf:H1 s1.heap.objs.size=none:=I1.hok.fresh (Nat.le_refl _)
 refine⟨.ref s1.heap.objs.size,upd H1 s1.heap.objs.size (.lst xs),I1.laid (t':=s1.toks) (fun b u e=>Heap.get?_push_of_some _ e) (Nat.le_refl _) ?_,rfl,q _ hf⟩
 exact⟨z,us,0,r,Heap.get?_push_size _ rfl⟩
end
abbrev Sp:=List V->Hp->VK->XK->Prop
abbrev CXT:=List Env->Hp->Shared->XK->Value->Shared->Prop
structure AU(P:Program)(w:World)(K:PySem.W.Frag)(mg:Str->Option Value)(base:Heap)(A:Around)(outer:List Env)(s:Shared)(H:Hp):Prop where
 frames:A.frames=some outer
 mod:Mod K mg base
 bs:∀ b o,base.get? b=some o->s.heap.get? b=some o /\ H b=none
 bsz:base.objs.size<=s.heap.objs.size
 wH:s.heap.FunFrames base outer
 frf:∀ b∈frs outer,H b=none
 hok:HOk P w H s.heap
 bare:AllBare s.gens
def CE(outer:List Env)(P:Program)(w:World)(H:Hp)(s:Shared)(Q:VK)(u:Value)(s':Shared):Prop:=
 ∃ v H',s'.os=s.os /\ AllBare s'.gens /\ Un (frs outer) [] H H' s.heap s'.heap /\ HOk P w H' s'.heap /\ RelV v u /\ Q v H'
def CR(CX:CXT)(outer:List Env)(P:Program)(w:World)(H:Hp)(s:Shared)(Q:VK)(E:XK)(r:Result)(s':Shared):Prop:=
 match r with
 |.ok (.ret u)=>CE outer P w H s Q u s'
 |.ok _=>False
 |.error e=>CX outer H s E e s'
structure cp(P:Program)(w:World)(K:PySem.W.Frag)(mg:Str->Option Value)(base:Heap)(CX:CXT)(k:Nat)(f:Addr)(fd:FuncData)(ps:List Str)(sp:Sp):Prop where
 len:∀ vs H Q E,sp vs H Q E->vs.length=ps.length
 run:∀(A:Around) (outer:List Env) (s:Shared) (H:Hp) (args:Args) (us:List Value) (vs:List V) (Q:VK) (E:XK),ik k A->AU P w K mg base A outer s H->BindsTo s fd args (ps.zip us)->Vals vs us->sp vs H Q E ->
  codeAny (model P w) A (.call (.ref f) args) (CR CX outer P w H s Q E) s
theorem cp.mono{P:Program}{w:World}{K:PySem.W.Frag}{mg:Str->Option Value}{base:Heap}{CX:CXT}{j k:Nat}{f:Addr}{fd:FuncData}{ps:List Str}{sp:Sp}(F:cp P w K mg base CX j f fd ps sp)(h:j<=k):
  cp P w K mg base CX k f fd ps sp:=⟨F.len,fun A outer s H args us vs Q E hr=>F.run A outer s H args us vs Q E (hr.mono h)⟩
theorem cp.imp{P:Program}{w:World}{K:PySem.W.Frag}{mg:Str->Option Value}{base:Heap}{CX:CXT}{k:Nat}{f:Addr}{fd:FuncData}{ps:List Str}{sp sp':Sp}(F:cp P w K mg base CX k f fd ps sp)
  (h:∀ vs H Q E,sp' vs H Q E->sp vs H Q E):cp P w K mg base CX k f fd ps sp':=
 ⟨fun vs H Q E q=>F.len vs H Q E (h _ _ _ _ q),fun A outer s H args us vs Q E hr he hb hv hs=>F.run A outer s H args us vs Q E hr he hb hv (h _ _ _ _ hs)⟩
theorem AU.make{P:Program}{w:World}{K:PySem.W.Frag}{mg:Str->Option Value}{base:Heap}{A:Around}{outer:List Env}{s:Shared}{H:Hp}(e:AU P w K mg base A outer s H)(C:Addr)(us:List Value)(kw:List (Str×Value)):
  AU P w K mg base (A.under (.builtin "type.__call__" ⟨.ref C ::us,kw⟩)) outer s H:=⟨by first|exact e.frames|(simpa [Around.under,Code.envs,Code.isFrame,pushEnvs]using e.frames),e.mod,e.bs,e.bsz,e.wH,e.frf,e.hok,e.bare⟩
section
variable{X:Cx}{pins:List (Addr×Obj)}{σ:St}{H:Hp}{s s':Shared}
theorem Inv.L6(I:Inv X pins σ H s):AU X.prog X.w X.K X.mg X.base X.A X.stack s H:=
 ⟨I.ok.frames,I.ok.mod,I.bs,Nat.le_trans I.ok.bsz I.sz,I.stack,I.yi,I.hok,I.bare⟩
theorem Inv.after{Q:VK}{u:Value}(I:Inv X pins σ H s)(h:CE X.stack X.prog X.w H s Q u s'):EP X pins σ Q u s':=by
 obtain⟨v,H',os,bare,un,hok,r,q⟩:=h;obtain⟨hh,g,d,t,os'⟩:=s'
 obtain rfl:os'=s.os:=os
 exact⟨v,H',I.call (h':=hh) (g':=g) (d':=d) (t':=t) (ch:=[]) un hok bare (fun b z=>absurd z (by simp)),r,q⟩
end
def Fy(C:Addr)(sp:Sp)(dvs:List V)(E:XK)(t:TA):TE:=fun σ H Q=>t σ H fun vs H1=>∀ x dx,H1 x=none->H1 dx=none->dx≠x ->
 sp (.ref x ::(vs++dvs)) (upd (upd H1 dx (.own x)) x (.ins C dx [])) (fun v H2=>v=.non /\ Q (.ref x) H2) E
def Binds(K:PySem.W.Frag)(fd:FuncData)(ps:List Str)(ds:List Value):Prop:=
 ∀(s:Shared) (us:List Value),K.In s.heap->(us++ds).length=ps.length->BindsTo s fd ⟨us,[]⟩ (ps.zip (us++ds))
theorem Binds.all{K:PySem.W.Frag}{fd:FuncData}{ps:List Str}(h:∀ us:List Value,us.length=ps.length->bindArgs fd ⟨us,[]⟩=pure (ps.zip us)):Binds K fd ps []:=fun s us _ hl=>by
 rw[List.append_nil]at hl ⊢
 exact .of_eq (h us hl)
def Passes(CX:CXT)(X:Cx)(E:XK):Prop:=∀(pins:List (Addr×Obj)) (σ:St) (H:Hp) (s:Shared) (e:Value) (s':Shared),Inv X pins σ H s->CX X.stack H s E e s'->X.xe e s'
section
variable{X:Cx}{CX:CXT}{k:Nat}{f C:Addr}{fd:FuncData}{ps:List Str}{sp:Sp}{dvs:List V}{ds:List Value}{E:XK}{x m:Str}{p pos apos:Pos}{e o:Expr}{es:List Expr}{ta:TE}{t:TA}
structure Mk(K:PySem.W.Frag)(C f:Addr):Prop where
 makes:PySem.W.makesIn K C=true
 init:PySem.W.findIn K (.ref C) "__init__" = some (some (.ref f))
 fn:PySem.W.isFn K (.ref f)=true
 kp:PySem.W.keepIn K (.ref C)=true
theorem DQ{pins:List (Addr×Obj)}{σ:St}{H:Hp}{s:Shared}{Q:VK}{us:List Value}{vs:List V}(M:Mk X.K C f)(F:cp X.prog X.w X.K X.mg X.base CX k f fd ps sp)(hr:ik (k+1) X.A)(hb:Binds X.K fd ps ds)(hd:Vals dvs ds)
  (hx:Passes CX X E) (I:Inv X pins σ H s) (r:Vals vs us)
  (h:∀ x dx,H x=none->H dx=none->dx≠x->sp (.ref x ::(vs++dvs)) (upd (upd H dx (.own x)) x (.ins C dx [])) (fun v H2=>v=.non /\ Q (.ref x) H2) E):
  wpAny (model X.prog X.w) X.A (call (.ref C) us) (EP X pins σ Q) X.xe s:=by
 have hq:=h (s.heap.objs.size+1) s.heap.objs.size (I.hok.fresh (Nat.le_succ _)) (I.hok.fresh (Nat.le_refl _)) (Nat.ne_of_lt (Nat.lt_succ_self _));have I2:=Inv.made (C:=C) I
 have r2:Vals (V.ref (s.heap.objs.size+1) ::(vs++dvs)) (Value.ref (s.heap.objs.size+1) ::(us++ds)):=.cons rfl (r.append hd)
 have hl:(Value.ref (s.heap.objs.size+1) ::us++ds).length=ps.length:=by
  have e:=r2.length;rw[F.len _ _ _ _ hq]at e;exact e.symm
 refine wpAny_call (FW (f:=f) I.kIn M.makes M.init (beq_iff_eq.mp M.fn) (codeAny_mono (F.run _ X.stack _ _ ⟨Value.ref (s.heap.objs.size+1) ::us,[]⟩ (Value.ref (s.heap.objs.size+1) ::(us++ds)) _ _ E (hr.make C us [])
  (I2.L6.make C us []) (hb _ (Value.ref (s.heap.objs.size+1) ::us) I2.kIn hl) r2 hq) fun r s' hq'=>?_))
 cases r with
 |error e=>exact hx pins σ _ _ e s' I2 hq'
 | ok fl=>
   cases fl with
   | ret u=>
     obtain⟨v,H',I3,rv,ev,q3⟩:=I2.after hq';subst ev
     exact⟨rv,⟨V.ref (s.heap.objs.size+1),H',I3,rfl,q3⟩⟩
   |next=>exact False.elim hq'
   |brk=>exact False.elim hq'
   |cont=>exact False.elim hq'
theorem DO(M:Mk X.K C f)(F:cp X.prog X.w X.K X.mg X.base CX k f fd ps sp)(hr:ik (k+1) X.A)(hg:Gl X x)(hm:X.mg x=some (.ref C))(hb:Binds X.K fd ps ds)(hd:Vals dvs ds)(hx:Passes CX X E)
  (hdb:(x==("__debug__":Str))=false:=by decide):PE X (.Call (.Name x p) [] [] pos) (Fy C sp dvs E kL):=by
 intro pins s σ H Q I h;refine wpAny_Call_Name_kw (uO I hg hm ?_ hdb);exact PySem.W.callWith_K0 I.kIn M.kp (DQ (us:=[]) M F hr hb hd hx I .nil h)
end
structure aW(N P:List Str)(sc:Scope):Prop where
 kind:sc.kind=.function
 co:sc.isCoroutine=false
 gen:sc.isGenerator=false
 nd:N.Nodup
 pre:N.take P.length=P
 par:∀ x∈P,sc.names.lookup x=some .local \/ sc.names.lookup x=some .cell
 nofree:∀ y∈sc.names,y.2≠.free
theorem wM{kindOf:Str->Option NameKind}{x:Str}:∀{binds:List (Str×Value)} {m:Str->Option Value},(∀ v,(x,v)∉binds)->bindL kindOf binds m x=m x
 |[],_,_=>rfl
 | (n,v) ::r,m,h=>by
   unfold bindL;rw[wM fun w hw=>h w (List.mem_cons_of_mem _ hw)];split
   . have:x≠n:=by rintro rfl;exact h v List.mem_cons_self
     simp[this]
   . rfl
theorem xq{kindOf:Str->Option NameKind}{x:Str}:∀{binds:List (Str×Value)} {m:Str->Option Value},(∀ v,(x,v)∉binds)->bindC kindOf binds m x=m x
 |[],_,_=>rfl
 | (n,v) ::r,m,h=>by
   unfold bindC;rw[xq fun w hw=>h w (List.mem_cons_of_mem _ hw)];split
   . rfl
   . have:x≠n:=by rintro rfl;exact h v List.mem_cons_self
     simp[this]
theorem xy{kindOf:Str->Option NameKind}{x:Str}{v:Value}:∀{P:List Str} {vs:List Value} {i:Nat} {m:Str->Option Value},P.Nodup->P[i]?=some x->vs[i]?=some v->kindOf x=some .local ->
  bindL kindOf (P.zip vs) m x=some v
 |[],_,_,_,_,h,_,_=>by simp at h
 |_ ::_,[],_,_,_,_,h,_=>by simp at h
 | p ::P,w ::vs,0,m,nd,h1,h2,hk=>by
   simp at h1 h2;subst h1;subst h2;show bindL kindOf ((p,w) ::P.zip vs) m p=_;unfold bindL;rw[wM fun v hv=>(List.nodup_cons.mp nd).1 (List.of_mem_zip hv).1,if_pos hk];simp
 | p ::P,w ::vs,i+1,m,nd,h1,h2,hk=>by
   show bindL kindOf ((p,w) ::P.zip vs) m x=_;unfold bindL;exact xy (i:=i) (List.nodup_cons.mp nd).2 (by simpa using h1) (by simpa using h2) hk
theorem wU{kindOf:Str->Option NameKind}{x:Str}{v:Value}:∀{P:List Str} {vs:List Value} {i:Nat} {m:Str->Option Value},P.Nodup->P[i]?=some x->vs[i]?=some v->kindOf x≠some .local ->
  bindC kindOf (P.zip vs) m x=some v
 |[],_,_,_,_,h,_,_=>by simp at h
 |_ ::_,[],_,_,_,_,h,_=>by simp at h
 | p ::P,w ::vs,0,m,nd,h1,h2,hk=>by
   simp at h1 h2;subst h1;subst h2;show bindC kindOf ((p,w) ::P.zip vs) m p=_;unfold bindC;rw[xq fun v hv=>(List.nodup_cons.mp nd).1 (List.of_mem_zip hv).1,if_neg hk];simp
 | p ::P,w ::vs,i+1,m,nd,h1,h2,hk=>by
   show bindC kindOf ((p,w) ::P.zip vs) m x=_;unfold bindC;exact wU (i:=i) (List.nodup_cons.mp nd).2 (by simpa using h1) (by simpa using h2) hk
def start(N:List Str)(vs:List V):St:=vs.map some++List.replicate (N.length - vs.length) none
def tT(CX:CXT)(P:Program)(w:World)(K:PySem.W.Frag)(mg:Str->Option Value)(base:Heap)(N:List Str)(qual:Str)(scope:Scope)(f:Addr)(cd:Value)(A:Around)(outer:List Env)(s:Shared)(H:Hp)(E:XK):Cx where
 prog:=P
 w:=w
 K:=K
 mg:=mg
 base:=base
 A:=A.deeper (envOfC qual scope s.heap.objs.size f cd)
 N:=N
 s₀:=s
 H₀:=H
 env:=envOfC qual scope s.heap.objs.size f cd
 outer:=outer
 stack:=envOfC qual scope s.heap.objs.size f cd ::outer
 ex:=[]
 calm:=true
 fn:=fun _=>true
 pn:=[]
 xe:=fun e s'=>wpAny (model P w) (A.deeper (envOfC qual scope s.heap.objs.size f cd)) (leaving (envOfC qual scope s.heap.objs.size f cd) e) (fun _ s''=>CX outer H s E e s'') (fun e' s''=>CX outer H s E e' s'') s'
theorem zH{sc:Scope}{n:Nat}{x:Str}(h:sc.names.lookup x=some .cell):∃ c,(cellsFrom n sc.names []).lookup x=some c:=by
 have q:=PySem.W.cellsFrom_some sc.names n [] (.inl h);exact Option.isSome_iff_exists.mp q
theorem DH{CX:CXT}{P:Program}{w:World}{K:PySem.W.Frag}{mg:Str->Option Value}{base:Heap}{N ps:List Str}{qual:Str}{scope:Scope}{f:Addr}{cd:Value}{A:Around}{outer:List Env}{s s1:Shared}{H:Hp}{E:XK}{us:List Value}{vs:List V}
  (S:aW N ps scope) (hd:A.handled=none) (e0:AU P w K mg base A outer s H) (hl:vs.length=ps.length) (r:Vals vs us)
  (x:InCallC s s.heap.objs.size (bindL (envOfC qual scope s.heap.objs.size f cd).kindOf (ps.zip us) fun _=>none) (cellsFrom (s.heap.objs.size+1) scope.names []) (bindC (envOfC qual scope s.heap.objs.size f cd).kindOf (ps.zip us) fun _=>none) s1):
  Inv (tT CX P w K mg base N qual scope f cd A outer s H E) [] (start N vs) H s1:=by
 have hpl:ps.length<=N.length:=by have:=congrArg List.length S.pre;rw[List.length_take]at this;omega
 obtain⟨h1,tk,rfl,hk⟩:=x.done
 have noA:∀ b:Addr,b∉(tT CX P w K mg base N qual scope f cd A outer s H E).ex:=fun b z=>absurd (show b∈([]:List Addr) from z) (by simp)
 refine⟨⟨e0.mod,S.kind,rfl,rfl,Nat.le_refl _,fun y z c h1 h2=>?_,fun y hy=>?_,fun y c _ h=>?_,fun _=>hd,Around.frames_deeper e0.frames,.inr ⟨rfl,rfl⟩,fun b z=>absurd z (noA b),e0.bs,e0.bsz,fun b _ _=>noA b,fun b z=>absurd z (noA b),e0.wH,e0.frf⟩,
  rfl,e0.bare,Un.kept hk,⟨_,x.toInCall.ns,fun i y v h1 h2 h3=>?_⟩,fun y c h=>⟨_,x.cell y c h⟩,e0.hok.fresh (Nat.le_refl _),fun y c h=>?_,fun p hp=>absurd (show p∈([]:List (Addr×Obj)) from hp) (by simp),e0.hok.kept hk,?_⟩
 . exact name_of_addr x.apart (PySem.mem_of_lookup h1) (PySem.mem_of_lookup h2)
 . have hy:scope.names.lookup y=some .cell \/ scope.names.lookup y=some .free:=hy
   rcases hy with hy|hy
   . exact zH hy
   . exact absurd rfl (S.nofree _ (PySem.mem_of_lookup hy))
 . exact Nat.le_of_lt (x.above y c (PySem.mem_of_lookup h))
 . have hi:i < vs.length:=by
    unfold start at h2
    by_cases hi:i<vs.length
    . exact hi
    . rw[List.getElem?_append_right (by simpa using hi)]at h2;rw[List.getElem?_replicate]at h2
      split at h2<;>cases h2
   have ha:vs[i]?=some v:=by
    unfold start at h2;rw[List.getElem?_append_left (by simpa using hi),List.getElem?_map]at h2
    cases e:vs[i]? with
    |none=>rw[e]at h2;cases h2
    |some a=>rw[e]at h2;cases h2;rfl
   obtain⟨u,hu,rv⟩:=r.get ha
   have hp:ps[i]?=some y:=by
    rw[<- S.pre,List.getElem?_take_of_lt (by omega)];exact h1
   have ndP:ps.Nodup:=by rw[<- S.pre];exact S.nd.sublist (List.take_sublist _ _)
   refine⟨u,rv,?_⟩
   rcases S.par y (List.mem_of_getElem? hp)with k|k
   . exact .inl ⟨k,xy ndP hp hu k⟩
   . obtain⟨c,e⟩:=zH (n:=s.heap.objs.size+1) k;refine .inr ⟨.inl k,c,e,?_⟩;have q:=x.cell y c e;rw[wU ndP hp hu (by show scope.names.lookup y≠_;rw[k];decide)]at q;exact q
 . exact e0.hok.fresh (Nat.le_of_lt (x.above y c (PySem.mem_of_lookup h)))
 . unfold start;show _=N.length;rw[List.length_append,List.length_map,List.length_replicate];omega
theorem Ma{CX:CXT}{P:Program}{w:World}{K:PySem.W.Frag}{mg:Str->Option Value}{base:Heap}{k:Nat}{f:Addr}{name qual:Str}{params:Arguments}{body:List Stmt}{scope:Scope}{dV kV doc pm cdv ct oc:Value}{an od:Option Addr}
  {osl:Array (Option Value)} {N ps:List Str} {sp:Sp} (lk:K.lookup f=some ⟨oc,od,.func (PySem.W.fnOf name qual params body scope dV kV doc pm an cdv ct),osl⟩) (hcd:PySem.W.codeIn K cdv qual=true) (S:aW N ps scope)
  (len:∀ vs H Q E,sp vs H Q E->vs.length=ps.length)
  (hbody:∀(A:Around) (outer:List Env) (s:Shared) (H:Hp) (vs:List V) (Q:VK) (E:XK),ik k (A.deeper (envOfC qual scope s.heap.objs.size f cdv))->sp vs H Q E ->
    ∃ t,PSs (tT CX P w K mg base N qual scope f cdv A outer s H E) body t /\ t { nx:=fun _ H'=>Q .non H',rt:=Q } (start N vs) H):
  cp P w K mg base CX (k+1) f (PySem.W.fnOf name qual params body scope dV kV doc pm an cdv ct) ps sp:=by
 refine⟨len,fun A outer s H args us vs Q E hr e0 hb r hsp=>?_⟩
 have hl:=len _ _ _ _ hsp
 have KX:K.In s.heap:=e0.mod.kin.keeps fun b o e=>(e0.bs b o e).1
 have lim:s.heap.NoLimit:=e0.mod.nolimit.keeps fun b o e=>(e0.bs b o e).1
 have hkind:∀ y∈ps.zip us,scope.names.lookup y.1=some .local \/ (scope.names.lookup y.1=some .cell /\ ((cellsFrom (s.heap.objs.size+1) scope.names []).lookup y.1).isSome=true):=fun ⟨n,v⟩ hy=>by
  rcases S.par n (List.of_mem_zip hy).1 with q|q
  . exact .inl q
  . exact .inr ⟨q,PySem.W.cellsFrom_some _ _ _ (.inl q)⟩
 refine codeAny_call_function hr.depth (KX _ _ lk) rfl S.co S.gen rfl (PySem.W.codeRec_of KX hcd) (hb _ _ _ _ ?_)
 refine wpAny_newFunctionEnv_cells S.kind hkind fun env he s1 x=>?_
 subst he
 refine⟨lim.keeps x.toInCall.keep,codeAny_func ?_⟩
 obtain⟨t,ht,hq⟩:=hbody A outer s H vs Q E (hr.deeper _) hsp
 have I:Inv (tT CX P w K mg base N qual scope f cdv A outer s H E) [] (start N vs) H s1:=DH S hr.hd e0 hl r x
 refine wpAny_mono (ht [] s1 (start N vs) H _ I hq) (fun fl s' hs=>?_) fun e s' hs=>hs
 have fin:∀{σ':St} {H':Hp} {v:V} {u:Value},Inv (tT CX P w K mg base N qual scope f cdv A outer s H E) [] σ' H' s'->RelV v u->Q v H'->CE outer P w H s Q u s':=
  fun {σ' H' v u} J rv q=>⟨v,H',J.os,J.bare,J.base,J.hok,rv,q⟩
 cases fl with
 | ret u=>
   obtain⟨v,σ',H',J,rv,q⟩:=hs;exact fin J rv q
 | next=>
   obtain⟨σ',H',J,q⟩:=hs;exact fin (v:=V.non) (u:=Value.none) J rfl q
 | brk=>
   obtain⟨_,_,_,q⟩:=hs;exact False.elim q
 | cont=>
   obtain⟨_,_,_,q⟩:=hs;exact False.elim q
section
variable{X:Cx}{x:Str}{p pos:Pos}{e:Expr}{es:List Expr}{t:TA}{id T:String}{r:List V->Hp->VK->Prop}
def tCB(r:List V->Hp->VK->Prop)(t:TA):TE:=fun σ H Q=>t σ H fun vs H1=>r vs H1 Q
theorem Fq(hc:oI X (.builtin id) r)(hg:Gl X x)(hm:X.mg x=none)(hv:bootBuiltins x=some (.builtin id))(ha:PA X (e ::es) t)(hn:x ≠ "__name__":=by decide)(hdb:(x==("__debug__":Str))=false:=by decide)
  (he:starEach (e ::es) X.env=(false,eval e X.env) ::starEach es X.env:=by rfl) (hpl:(backTo pos (starEach es X.env)).any (·.1)=false:=by rfl):PE X (.Call (.Name x p) (e ::es) [] pos) (tCB r t):=by
 intro pins s σ H Q I h;refine wpAny_Call_Name_kw (vW I hg hm hv ?_ hn hdb);exact PyProof.Rows.callWith_builtin1 (thn (ha pos pins s σ H _ I h) fun us s1 ⟨vs,H1,I1,r1,q1⟩=>hc pins s1 σ H1 vs us Q I1 r1 q1) he hpl
theorem DJ(hc:oI X (.type T) r)(hg:Gl X x)(hm:X.mg x=none)(hv:bootBuiltins x=some (.type T))(ha:PA X (e ::es) t)(hn:x ≠ "__name__":=by decide)(hdb:(x==("__debug__":Str))=false:=by decide)
  (he:starEach (e ::es) X.env=(false,eval e X.env) ::starEach es X.env:=by rfl) (hpl:(backTo pos (starEach es X.env)).any (·.1)=false:=by rfl):PE X (.Call (.Name x p) (e ::es) [] pos) (tCB r t):=by
 intro pins s σ H Q I h;refine wpAny_Call_Name_kw (vW I hg hm hv ?_ hn hdb);exact PyProof.Rows.callWith_type1 (thn (ha pos pins s σ H _ I h) fun us s1 ⟨vs,H1,I1,r1,q1⟩=>hc pins s1 σ H1 vs us Q I1 r1 q1) he hpl
end
end L2
namespace HT
open PySem PyProof.Rows
section
open PySem.SeqAt
open PySem.AutoSeq1 (wpAny_loadPart')
open PySem.MeetsSeq PySem.MeetsSeq2 PySem.MeetsSeq3
end
section
variable{prog:Program}{w:World}{A:Around}{E:Value->Shared->Prop}{s:Shared}
def sIx(n d:Nat):Option Int->Nat
 |none=>d
 |some v=>if v<0 then(v+(n:Int)).toNat else min v.toNat n
end
end HT
namespace L2
open PySem PySem.Spec PyProof.Rows
abbrev TO:=St->Hp->(Option Int->Hp->Prop)->Prop
def PO(X:Cx)(e:Option Expr)(t:TO):Prop:=
 ∀(pins:List (Addr×Obj)) (s:Shared) (σ:St) (H:Hp) (Q:Option Int->Hp->Prop),Inv X pins σ H s->t σ H Q ->
   wpAny (model X.prog X.w) X.A (evalPart e X.env) (fun u s'=>∃ o H',Inv X pins σ H' s' /\ IsPart u o /\ Q o H') X.xe s
def xI:TO:=fun _ H Q=>Q none H
def Fs(t:TE):TO:=fun σ H Q=>t σ H fun x H1=>∃ i,x=.int i /\ Q (some i) H1
section
variable{X:Cx}{e:Expr}{te:TE}{lo hi:Option Expr}{tl th:TO}{pos p2:Pos}
theorem HK:PO X none xI:=by
 intro pins s σ H Q I h;rw[evalPart_none];exact wpAny_pure ⟨none,H,I,.none,h⟩
theorem Ie(h:PE X e te):PO X (some e) (Fs te):=by
 intro pins s σ H Q I hw;rw[evalPart_some]
 refine thn (h pins s σ H _ I hw) fun u s1 ⟨x,H1,I1,r1,q1⟩=>?_
 obtain⟨i,rfl,q⟩:=q1;obtain⟨t,rfl⟩:=r1
 exact⟨some i,H1,I1,.int i t,q⟩
def SlR(X:Cx)(r:V->Option Int->Option Int->Hp->VK->Prop):Prop:=
 ∀(pins:List (Addr×Obj)) (s:Shared) (σ:St) (H:Hp) (x:V) (v vl vu:Value) (lo hi:Option Int) (sl:Addr) (Q:VK),Inv X pins σ H s->RelV x v->s.heap.IsSliceOf sl vl vu .none->IsPart vl lo->IsPart vu hi->r x lo hi H Q ->
   ∃ T id,typeLookup (.type T) "__getitem__" = pure (some (.builtin id)) /\ s.TypeIs v T /\ wpAny (model X.prog X.w) X.A (getItem v (.ref sl)) (EP X pins σ Q) X.xe s
def tSl(r:V->Option Int->Option Int->Hp->VK->Prop)(te:TE)(tl th:TO):TE:=fun σ H Q=>te σ H fun x H1=>tl σ H1 fun l H2=>th σ H2 fun u H3=>r x l u H3 Q
theorem Ej{r:V->Option Int->Option Int->Hp->VK->Prop}(hr:SlR X r)(he:PE X e te)(hl:PO X lo tl)(hu:PO X hi th):PE X (.Subscript e (.Slice lo hi none p2) pos) (tSl r te tl th):=by
 intro pins s σ H Q I h;refine Subscript_ (thn (he pins s σ H _ I h) fun v s1 ⟨x,H1,I1,r1,q1⟩=>?_);refine wpAny_Slice (thn (hl pins s1 σ H1 _ I1 q1) fun vl s2 ⟨l,H2,I2,pl,q2⟩=>thn (hu pins s2 σ H2 _ I2 q2) fun vu s3 ⟨u,H3,I3,pu,q3⟩=>?_);rw[evalPart_none];refine wpAny_pure ?_
 have I4:Inv X pins σ H3 { s3 with heap:=s3.heap.push { cls:=.type "slice",data:=.fields #[vl,vu,.none] } }:=I3.kept (t':=s3.toks) fun b ob q=>Heap.get?_push_of_some _ q
 obtain⟨T,id,hT,ht,hg⟩:=hr pins { s3 with heap:=s3.heap.push { cls:=.type "slice",data:=.fields #[vl,vu,.none] } } σ H3 x v vl vu l u s3.heap.objs.size Q I4 r1 (Heap.IsSliceOf.new ..) pl pu q3;show wpAny (model X.prog X.w) X.A (subscriptTail e (.Slice lo hi none p2) v (.ref s3.heap.objs.size)) (EP X pins σ Q) X.xe { s3 with heap:=s3.heap.push { cls:=.type "slice",data:=.fields #[vl,vu,.none] } };exact tail_any (ops:=[.ref s3.heap.objs.size,v]) ht hT hg (by with_unfolding_all rfl)
def Dg(xs:List V)(lo hi:Option Int):List V:=(xs.drop (HT.sIx xs.length 0 lo)).take (HT.sIx xs.length xs.length hi - HT.sIx xs.length 0 lo)
theorem zk(xs:List V)(lo hi:Option Int):(Dg xs lo hi).length<=xs.length:=by
 unfold Dg;rw[List.length_take,List.length_drop];omega
end
def ixN(n:Nat)(i:Int):Option Nat:=if 0<=i then(if i<n then some i.toNat else none)else if -(n:Int)<=i then some (i+n).toNat else none
def atI{α:Type}(xs:List α)(i:Int):Option α:=(ixN xs.length i).bind fun j=>xs[j]?
theorem Cd{n:Nat}{i:Int}{j:Nat}(h:ixN n i=some j):seqIndex? i n=some j /\ j<n /\ -(n:Int)<=i /\ i<n:=by
 unfold ixN at h
 by_cases h0:0<=i
 . rw[if_pos h0]at h
   by_cases h1:i<n
   . rw[if_pos h1]at h
     have e:i.toNat=j:=Option.some.inj h
     exact⟨by rw[seqIndex_of h0 h1,e],by omega,by omega,h1⟩
   . rw[if_neg h1]at h;cases h
 . rw[if_neg h0]at h
   by_cases h1:-(n:Int)<=i
   . rw[if_pos h1]at h
     have e:(i+n).toNat=j:=Option.some.inj h
     exact⟨by rw[seqIndex_neg (by omega) h1,e],by omega,h1,by omega⟩
   . rw[if_neg h1]at h;cases h
theorem BY{α:Type}{xs:List α}{i:Int}{v:α}(h:atI xs i=some v):∃ j,seqIndex? i xs.length=some j /\ xs[j]?=some v /\ j<xs.length /\ -(xs.length:Int)<=i /\ i<xs.length:=by
 unfold atI at h
 cases e:ixN xs.length i with
 |none=>rw[e]at h;cases h
 | some j=>
   rw[e]at h;obtain⟨h1,h2,h3,h4⟩:=Cd e
   exact⟨j,h1,h,h2,h3,h4⟩
def yG(b:Expr):Prop:=∀ o i,subscripted b false o i=operate [o,i] (getItem o i)
def IxR(X:Cx)(r:R2):Prop:=
 ∀(value slice:Expr) (pins:List (Addr×Obj)) (s:Shared) (σ:St) (H:Hp) (x y:V) (v u:Value) (Q:VK),Inv X pins σ H s->RelV x v->RelV y u->r x y H Q ->
   subscripted slice false v u=operate [v,u] (getItem v u)->wpAny (model X.prog X.w) X.A (subscriptTail value slice v u) (EP X pins σ Q) X.xe s
def MtR(X:Cx)(id:String)(r:V->List V->Hp->VK->Prop):Prop:=
 ∀(pins:List (Addr×Obj)) (s:Shared) (σ:St) (H:Hp) (x:V) (xs:List V) (v:Value) (us:List Value) (Q:VK),Inv X pins σ H s->RelV x v->Vals xs us->r x xs H Q ->
   wpAny (model X.prog X.w) X.A (call (.builtin id) (v ::us)) (EP X pins σ Q) X.xe s
section
variable{X:Cx}{a b:Expr}{ta tb:TE}{pos:Pos}
theorem L0{r:R2}(hr:IxR X r)(ha:PE X a ta)(hb:PE X b tb)(hs:yG b):PE X (.Subscript a b pos) (tOp r ta tb):=by
 intro pins s σ H Q I h;exact Subscript_ (Jt ha hb I h fun v u s2 x y H2 I2 rx ry q=>hr a b pins s2 σ H2 x y v u Q I2 rx ry q (hs _ _))
def Ha(K:PySem.W.Frag):R2:=fun x y H Q=>∃ p xs i v,x=.ref p /\ y=.int i /\ SqL K H p xs /\ atI xs i=some v /\ Q v H
def LZ(K:PySem.W.Frag):R2:=fun x y H Q=>∃ p xs i v,x=.ref p /\ y=.int i /\ SqT K H p xs /\ atI xs i=some v /\ Q v H
theorem bU:IxR X (Ha X.K):=by
 intro value slice pins s σ H x y v u Q I rx ry h hs;obtain⟨p,xs,i,z,rfl,rfl,hq,he,q⟩:=h;cases rx;obtain⟨t,rfl⟩:=ry;obtain⟨its,r,pl,hz⟩:=I.list hq;obtain⟨j,h1,h2,h3,h4,h5⟩:=BY he;obtain⟨w,ew,rw'⟩:=r.get h2;have hl:=r.length;have hn:=vU
 have fin:EP X pins σ Q w s:=⟨z,H,I,rw',q⟩
 by_cases h0:0<=i
 . have hj:i.toNat = j:=by
    rw[seqIndex_of h0 h5]at h1;exact Option.some.inj h1
   exact item_listR pl.isList h0 (by omega) (by rw[hj];simpa using ew) fin hs
 . have hj:(i + (its.toArray.size:Int)).toNat = j:=by
    rw[seqIndex_neg (by omega) h4]at h1;rw[List.size_toArray,<- hl];exact Option.some.inj h1
   exact subscriptTail_builtinR (x:=w) pl.isList.typeIs slot_list_getitem.lookup
    (wpAny_getItem_list_neg (Q:=fun r s'=>r=w /\ EP X pins σ Q r s') pl.isList (by omega) (by rw[List.size_toArray]<;>omega) (by omega) (by rw[hj];simpa using ew) ⟨rfl,fin⟩) hs
theorem dU:IxR X (LZ X.K):=by
 intro value slice pins s σ H x y v u Q I rx ry h hs;obtain⟨p,xs,i,z,rfl,rfl,hq,he,q⟩:=h;cases rx;obtain⟨t,rfl⟩:=ry;obtain⟨its,r,pl,hz⟩:=I.tuple hq;obtain⟨j,h1,h2,h3,h4,h5⟩:=BY he;obtain⟨w,ew,rw'⟩:=r.get h2;have hl:=r.length;have hn:=vU
 have fin:EP X pins σ Q w s:=⟨z,H,I,rw',q⟩
 exact subscriptTail_builtinR (x:=w) pl.typeIs slot_tuple_getitem.lookup
  (getItem_tuple (j:=j) (Q:=fun r s'=>r=w /\ EP X pins σ Q r s') pl (by omega) (by omega) (by rw[List.size_toArray,<- hl];exact h1) (by simpa using ew) ⟨rfl,fin⟩) hs
theorem AN(its:List Value)(n j:Nat)(u:Value):Obj.mapSeq (·.setIfInBounds j u) { cls:=.type "list",data:=.seq its.toArray n }={ cls:=.type "list",data:=.seq (its.set j u).toArray n }:=by
 simp[Obj.mapSeq]
theorem Inv.lst{pins:List (Addr×Obj)}{σ:St}{H:Hp}{s:Shared}{p:Addr}{xs:List V}(I:Inv X pins σ H s)(h:H p=some (.lst xs)):
  ∃(its:List Value) (n:Nat),Vals xs its /\ s.heap.get? p=some { cls:=.type "list",data:=.seq its.toArray n } /\ xs.length<=sizeLine:=by
 obtain⟨z,its,n,r,e⟩:=I.hok p _ h
 exact⟨its,n,r,e,z⟩
theorem Inv.Kk{pins:List (Addr×Obj)}{σ:St}{H:Hp}{s:Shared}{p:Addr}{xs ys:List V}{its its':List Value}{n n':Nat}{f:Obj->Obj}(I:Inv X pins σ H s)(h:H p=some (.lst xs))
  (ho:s.heap.get? p=some { cls:=.type "list",data:=.seq its.toArray n }) (hf:f { cls:=.type "list",data:=.seq its.toArray n }={ cls:=.type "list",data:=.seq its'.toArray n' }) (r:Vals ys its') (hz:ys.length<=sizeLine) (t:Nat):
  Inv X pins σ (upd H p (.lst ys)) { s with heap:=s.heap.update p f,toks:=t }:=by
 have e:(s.heap.update p f).get? p=some { cls:=.type "list",data:=.seq its'.toArray n' }:=by
  rw[Heap.get?_update_self f ho (by rw[hf]<;>rfl),hf]
 refine I.write (x:=p) (e:=p) (by rw[h];trivial) (.inl rfl) (fun b u hb q=>(Heap.get?_update_other _ _ (Ne.symm hb)).trans q) ⟨_,e⟩ ?_
 exact⟨hz,its',n',r,e⟩
def IP:V->V->V->Hp->(Hp->Prop)->Prop:=fun o i v H Q=>∃ p xs k j,o=.ref p /\ i=.int k /\ H p=some (.lst xs) /\ ixN xs.length k=some j /\ Q (upd H p (.lst (xs.set j v)))
theorem set_list:Ln X IP:=by
 intro pins s σ H o i v ov iv u Q I ro ri rv h;obtain⟨p,xs,k,j,rfl,rfl,hp,hj,q⟩:=h;cases ro;obtain⟨t,rfl⟩:=ri;obtain⟨its,n,r,ho,hz⟩:=I.lst hp;obtain⟨h1,h2,h3,h4⟩:=Cd hj;have hl:=r.length;have hn:=vU
 have I':Inv X pins σ (upd H p (.lst (xs.set j v))) { s with heap:=s.heap.update p (Obj.mapSeq (·.setIfInBounds j u)) }:=
  I.Kk hp ho (AN its n j u) (r.set rv j) (by rw[List.length_set];exact hz) s.toks
 by_cases h0:0<=k
 . have hk:k.toNat = j:=by
    rw[seqIndex_of h0 h4]at h1;exact Option.some.inj h1
   exact PySem.W.ki_setAt ho h0 (by omega) (by rw[List.size_toArray,<- hl];exact h4) (by rw[hk];exact⟨_,I',q⟩)
 . have hk:(k + (its.toArray.size:Int)).toNat = j:=by
    rw[seqIndex_neg (by omega) h3]at h1;rw[List.size_toArray,<- hl];exact Option.some.inj h1
   exact PySem.W.ki_setBack ho (by omega) (by rw[List.size_toArray,<- hl];exact h3) (by omega) (by rw[hk];exact⟨_,I',q⟩)
theorem yj(lo hi:Option Int)(n:Nat):(sliceBounds lo hi none n).1=((HT.sIx n 0 lo:Nat):Int) /\ (sliceBounds lo hi none n).2.1=((HT.sIx n n hi:Nat):Int) /\ (sliceBounds lo hi none n).2.2=1:=by
 refine⟨?_,?_,rfl⟩
 . cases lo with
   |none=>simp[sliceBounds,HT.sIx]
   | some i=>
     simp only[sliceBounds,HT.sIx,Option.getD_none,show(1:Int)>0 by decide,if_true]
     by_cases h:i<0
     . simp only[h,if_true]<;>omega
     . simp only[h,if_false]<;>omega
 . cases hi with
   |none=>simp[sliceBounds,HT.sIx]
   | some i=>
     simp only[sliceBounds,HT.sIx,Option.getD_none,show(1:Int)>0 by decide,if_true]
     by_cases h:i<0
     . simp only[h,if_true]<;>omega
     . simp only[h,if_false]<;>omega
theorem wD(its:List Value)(lo hi:Option Int):slicePick its.toArray lo hi none=((its.drop (HT.sIx its.length 0 lo)).take (HT.sIx its.length its.length hi - HT.sIx its.length 0 lo)).toArray:=by
 obtain⟨h1,h2,h3⟩:=yj lo hi its.toArray.size;unfold slicePick;rw[h1,h2,h3]
 simp only[sliceRange_one,pick_run,List.size_toArray]<;>rfl
def Mn(K:PySem.W.Frag):V->Option Int->Option Int->Hp->VK->Prop:=fun x lo hi H Q=>∃ a xs,x=.ref a /\ SqL K H a xs /\ ∀ p,H p=none->Q (.ref p) (upd H p (.lst (Dg xs lo hi)))
theorem sf:SlR X (Mn X.K):=by
 intro pins s σ H x v vl vu lo hi sl Q I rx hs pl pu h;obtain⟨a,xs,rfl,hx,q⟩:=h;cases rx;obtain⟨its,r,ht,hz⟩:=I.list hx;have hlen:=r.length
 refine⟨"list",_,slot_list_getitem.lookup,ht.isList.typeIs,?_⟩
 refine wpAny_getItem_list_slice ht.isList hs pl pu .none (by simp) ?_ (by rw[List.size_toArray]<;>omega);rw[wD,<- hlen]
 refine⟨.ref s.heap.objs.size,_,I.laid (t':=s.toks) (o:=.lst (Dg xs lo hi)) (fun b ob q=>Heap.get?_push_of_some _ q) (Nat.le_refl _) ?_,rfl,q _ (I.hok.fresh (Nat.le_refl _))⟩
 exact⟨Nat.le_trans (zk xs lo hi) hz,_,0,(r.drop (HT.sIx xs.length 0 lo)).take (HT.sIx xs.length xs.length hi - HT.sIx xs.length 0 lo),Heap.get?_push_size _ rfl⟩
def qG:V->Bool
 |.non=>true
 |.bl _=>true
 |.int _=>true
 |.str _=>true
 |_=>false
def eqV:V->V->Bool
 |.non,.non=>true
 |.bl a,.bl b=>a==b
 |.bl a,.int b=>(if a then 1 else 0)==b
 |.int a,.bl b=>a==(if b then 1 else 0)
 |.int a,.int b=>a==b
 |.str a,.str b=>a==b
 |_,_=>false
theorem K9{A:Around}{s:Shared}{y x:V}{u v:Value}(ry:RelV y u)(rx:RelV x v)(fy:qG y=true)(fx:qG x=true):SeqAt.EqAt A s u v (eqV y x):=by
 cases y with
 | non=>
   cases ry
   cases x with
   |non=>cases rx;exact SeqAt.EqAt.same _
   |bl b=>cases rx;exact SeqAt.EqAt.none_bool b
   |int b=>obtain⟨t,rfl⟩:=rx;exact SeqAt.EqAt.none_int b t
   |str b=>obtain⟨t,rfl⟩:=rx;exact SeqAt.EqAt.none_str b t
   |_=>exact absurd (show false=true from fx) Bool.false_ne_true
 | bl a=>
   cases ry
   cases x with
   |non=>cases rx;exact SeqAt.EqAt.bool_none a
   |bl b=>cases rx;exact SeqAt.EqAt.bool_bool a b
   |int b=>obtain⟨t,rfl⟩:=rx;exact SeqAt.EqAt.bool_int a b t
   |str b=>obtain⟨t,rfl⟩:=rx;exact SeqAt.EqAt.bool_str a b t
   |_=>exact absurd (show false=true from fx) Bool.false_ne_true
 | int a=>
   obtain⟨t',rfl⟩:=ry
   cases x with
   |non=>cases rx;exact SeqAt.EqAt.int_none a t'
   |bl b=>cases rx;exact SeqAt.EqAt.int_bool a t' b
   |int b=>obtain⟨t,rfl⟩:=rx;exact SeqAt.EqAt.int_int a t' b t
   |str b=>obtain⟨t,rfl⟩:=rx;exact SeqAt.EqAt.int_str a t' b t
   |_=>exact absurd (show false=true from fx) Bool.false_ne_true
 | str a=>
   obtain⟨t',rfl⟩:=ry
   cases x with
   |non=>cases rx;exact SeqAt.EqAt.str_none a t'
   |bl b=>cases rx;exact SeqAt.EqAt.str_bool a t' b
   |int b=>obtain⟨t,rfl⟩:=rx;exact SeqAt.EqAt.str_int a t' b t
   |str b=>obtain⟨t,rfl⟩:=rx;exact SeqAt.EqAt.str_str a t' b t
   |_=>exact absurd (show false=true from fx) Bool.false_ne_true
 |_=>exact absurd (show false=true from fy) Bool.false_ne_true
def eqU(x:V)(u:Value):Bool:=match u with
 |.none=>eqV .non x
 |.bool b=>eqV (.bl b) x
 |.int i _=>eqV (.int i) x
 |.str z _=>eqV (.str z) x
 |_=>false
theorem Eo{x y:V}{u:Value}(r:RelV y u)(f:qG y=true):eqU x u=eqV y x:=by
 cases y with
 |non=>cases r;rfl
 |bl b=>cases r;rfl
 |int i=>obtain⟨t,rfl⟩:=r;rfl
 |str z=>obtain⟨t,rfl⟩:=r;rfl
 |_=>exact absurd (show false=true from f) Bool.false_ne_true
theorem sI{x:V}:∀{xs:List V} {us:List Value},Vals xs us->xs.all qG=true->us.any (eqU x)=xs.any fun y=>eqV y x
 |_,_,.nil,_=>rfl
 | y ::xs,u ::us,.cons r t,f=>by
   rw[List.all_cons,Bool.and_eq_true]at f;rw[List.any_cons,List.any_cons,Eo r f.1,sI t f.2]
theorem oZ{A:Around}{s:Shared}{x:V}{v:Value}(rx:RelV x v)(fx:qG x=true):∀{xs:List V} {us:List Value},Vals xs us->xs.all qG=true->∀ u∈us,SeqAt.EqAt A s u v (eqU x u)
 |_,_,.nil,_=>fun u hu=>by cases hu
 | y ::xs,u ::us,.cons r t,f=>fun u' hu=>by
   rw[List.all_cons,Bool.and_eq_true]at f
   rcases List.mem_cons.mp hu with rfl|hu
   . rw[Eo r f.1];exact K9 r rx f.1 fx
   . exact oZ rx fx t f.2 u' hu
def inV(x:V)(xs:List V):Bool:=xs.any fun y=>eqV y x
def rIn(K:PySem.W.Frag)(neg:Bool):R2:=fun x y H Q=>∃ p xs,y=.ref p /\ (SqL K H p xs \/ SqT K H p xs) /\ qG x=true /\ xs.all qG=true /\ Q (.bl (if neg then !inV x xs else inV x xs)) H
theorem DF:OpR X (compareOp .In) (rIn X.K false):=by
 intro pins s σ H x y v u Q I rx ry h;obtain⟨p,xs,rfl,hq,fx,fs,q⟩:=h;cases ry
 rcases hq with hq|hq
 . obtain⟨its,r,pl,hz⟩:=I.list hq;refine SeqAt.in_listAt (eqU x) pl.isList (fun w hw=>oZ rx fx r fs w (by simpa using hw)) ⟨.bl _,H,I,rfl,?_⟩;rw[show its.toArray.any (eqU x)=its.any (eqU x) by simp,sI r fs];exact q
 . obtain⟨its,r,pl,hz⟩:=I.tuple hq;refine SeqAt.in_tupleAt (eqU x) pl (fun w hw=>oZ rx fx r fs w (by simpa using hw)) ⟨.bl _,H,I,rfl,?_⟩;rw[show its.toArray.any (eqU x)=its.any (eqU x) by simp,sI r fs];exact q
theorem xP:OpR X (compareOp .NotIn) (rIn X.K true):=by
 intro pins s σ H x y v u Q I rx ry h;obtain⟨p,xs,rfl,hq,fx,fs,q⟩:=h;cases ry
 rcases hq with hq|hq
 . obtain⟨its,r,pl,hz⟩:=I.list hq;refine SeqAt.notIn_listAt (eqU x) pl.isList (fun w hw=>oZ rx fx r fs w (by simpa using hw)) ⟨.bl _,H,I,rfl,?_⟩;rw[show its.toArray.any (eqU x)=its.any (eqU x) by simp,sI r fs];exact q
 . obtain⟨its,r,pl,hz⟩:=I.tuple hq;refine SeqAt.notIn_tupleAt (eqU x) pl (fun w hw=>oZ rx fx r fs w (by simpa using hw)) ⟨.bl _,H,I,rfl,?_⟩;rw[show its.toArray.any (eqU x)=its.any (eqU x) by simp,sI r fs];exact q
theorem yM:oI X (.builtin "len") (fun xs H Q=>∃ p ys,xs=[.ref p] /\ (SqL X.K H p ys \/ SqT X.K H p ys) /\ Q (.int ys.length) H):=by
 intro pins s σ H xs us Q I r h;obtain⟨p,ys,rfl,hq,q⟩:=h;obtain⟨u,rfl,rx⟩:=vals1 r;cases rx;have hn:=vU
 rcases hq with hq|hq
 . obtain⟨its,r',pl,hz⟩:=I.list hq;have hlen:=r'.length;exact Calls.call_len_list pl.isList (by simp only[List.size_toArray]<;>omega) ⟨.int ys.length,H,I.tok _,⟨s.toks+1,by rw[List.size_toArray,hlen]⟩,q⟩
 . obtain⟨its,r',pl,hz⟩:=I.tuple hq;have hlen:=r'.length;exact len_tuple pl (by simp only[List.size_toArray]<;>omega) ⟨.int ys.length,H,I.tok _,⟨s.toks+1,by rw[List.size_toArray,hlen]⟩,q⟩
theorem jW:oI X (.type "tuple") (fun xs H Q=>∃ p ys,xs=[.ref p] /\ ((SqL X.K H p ys /\ ∀ l,H l=none->Q (.ref l) (upd H l (.tup ys))) \/ (SqT X.K H p ys /\ Q (.ref p) H))):=by
 intro pins s σ H xs us Q I r h;obtain⟨p,ys,rfl,h⟩:=h;obtain⟨u,rfl,rx⟩:=vals1 r;cases rx
 rcases h with⟨hq,q⟩|⟨hq,q⟩
 . obtain⟨its,r',pl,hz⟩:=I.list hq;have hlen:=r'.length;refine call_tuple_list pl.isList (fun h' kp=>?_) (by simp only[List.size_toArray]<;>omega)
   have I1:Inv X pins σ H { s with heap:=h' }:=I.kept (t':=s.toks) kp
   have I2:Inv X pins σ (upd H h'.objs.size (.tup ys)) { s with heap:=h'.push { cls:=.type "tuple",data:=.seq its.toArray } }:=
    I1.laid (t':=s.toks) (fun b o e=>Heap.get?_push_of_some _ e) (Nat.le_refl _) (show gq X.prog X.w _ _ _ (.tup ys) from⟨hz,its,r',IsTup.new _ _⟩)
   exact⟨.ref h'.objs.size,_,I2,rfl,q _ (I1.hok.fresh (Nat.le_refl _))⟩
 . obtain⟨its,r',pl,hz⟩:=I.tuple hq;exact call_tuple_same pl ⟨.ref p,H,I,rfl,q⟩
def tyV(K:PySem.W.Frag)(T:String)(x:V)(H:Hp):Prop:=match x with
 |.str _=>T = "str"
 |.int _=>T = "int"
 | .ref p=>(T = "list" /\ ∃ xs,SqL K H p xs) \/ (T = "tuple" /\ ∃ o,K.lookup p = some o /\ o.cls = .type "tuple" /\ o.dict = none) \/
    (T = "dict" /\ ((∃ kvs,H p=some (.dK kvs)) \/ ∃ kvs,H p=some (.dT kvs))) \/ (T = "set" /\ ∃ S n,H p=some (.set S n))
 |_=>False
theorem F9{pins:List (Addr×Obj)}{σ:St}{H:Hp}{s:Shared}{T:String}{x:V}{v:Value}(I:Inv X pins σ H s)(r:RelV x v)(ty:tyV X.K T x H):
  s.TypeIs v T /\ ∀ a,v=.ref a->∃ ob,s.heap.get? a=some ob /\ ob.dict=none:=by
 cases x with
 | str z=>
   obtain⟨t,rfl⟩:=r
   cases(show T = "str" from ty)
   exact⟨typeIs_str s z t,fun _ e=>nomatch e⟩
 | int i=>
   obtain⟨t,rfl⟩:=r
   cases(show T = "int" from ty)
   exact⟨typeIs_int s i t,fun _ e=>nomatch e⟩
 | ref p=>
   cases r
   rcases ty with⟨rfl,xs,hq⟩|⟨rfl,o,hk,hc,hd⟩|⟨rfl,hk⟩|⟨rfl,S,n,hk⟩
   . obtain⟨its,_,pl,_⟩:=I.list hq
     refine⟨pl.isList.typeIs,fun a e=>?_⟩
     cases e;obtain⟨o,n,e,c,hd,_⟩:=pl
     exact⟨o,e,hd⟩
   . refine⟨⟨o,I.kIn p o hk,hc⟩,fun a e=>?_⟩
     cases e
     exact⟨o,I.kIn _ o hk,hd⟩
   . have z:∃ o,s.heap.get? p = some o /\ o.ExactDict:=by
      rcases hk with⟨kvs,hk⟩|⟨kvs,hk⟩
      . obtain⟨_,_,_,_,o,_,_,e,ex,_⟩:=I.hok p _ hk
        exact⟨o,e,ex⟩
      . obtain⟨_,_,_,_,o,_,_,e,ex,_⟩:=I.hok p _ hk
        exact⟨o,e,ex⟩
     obtain⟨o,e,ex⟩:=z
     refine⟨⟨o,e,ex.1⟩,fun a e2=>?_⟩
     cases e2
     exact⟨o,e,ex.2.1⟩
   . obtain⟨o,_,_,_,e,ex,_⟩:=I.hok p _ hk
     refine⟨⟨o,e,ex.1⟩,fun a e2=>?_⟩
     cases e2
     exact⟨o,e,ex.2.1⟩
 |_=>exact False.elim ty
def Gu(K:PySem.W.Frag)(T:String)(r:V->List V->Hp->VK->Prop)(to:TE):TE:=fun σ H Q=>to σ H fun x H1=>tyV K T x H1 /\ r x [] H1 Q
def tBM(K:PySem.W.Frag)(T:String)(r:V->List V->Hp->VK->Prop)(to:TE)(t:TA):TE:=fun σ H Q=>to σ H fun x H1=>tyV K T x H1 /\ t σ H1 fun xs H2=>r x xs H2 Q
variable{o e:Expr}{es:List Expr}{to:TE}{t:TA}{name:Str}{apos cpos:Pos}{T id:String}{r:V->List V->Hp->VK->Prop}
theorem Lo(pa:PlainAttrs T)(slot:Slot T name id)(hty:typeOf (.builtin id)=pure (.type "method_descriptor"))(hm:MtR X id r)(ho:PE X o to)
  (hbase:attributeBase o name X.env (eval o X.env)=eval o X.env:=by rfl) (hline:(apos.endLine==cpos.line)=true:=by rfl):PE X (.Call (.Attribute o name apos) [] [] cpos) (Gu X.K T r to):=by
 intro pins s σ H Q I h;refine wpAny_Call_method0_late hbase hline (thn (ho pins s σ H _ I h) fun v s1 ⟨x,H1,I1,r1,ty,q1⟩=>?_);obtain⟨h1,h2⟩:=F9 I1 r1 ty
 exact⟨T,id,pa,slot,hty,h1,h2,Calls.callWith_builtin rfl (PySem.evalArgs_none (hm pins s1 σ H1 x [] v [] Q I1 r1 .nil q1))⟩
theorem L7(pa:PlainAttrs T)(slot:Slot T name id)(hty:typeOf (.builtin id)=pure (.type "method_descriptor"))(hm:MtR X id r)(ho:PE X o to)(ha:PA X (e ::es) t)
  (hbase:attributeBase o name X.env (eval o X.env)=eval o X.env:=by rfl)
  (hfew:((backTo cpos (starEach (e ::es) X.env)).all (fun x=>!x.1)&&(backToKw cpos (keywordEach [] X.env)).all (fun x=>x.1.isSome)
    && decide ((e ::es).length+([]:List Keyword).length+(if([]:List Keyword).isEmpty then 0 else 1)<30))=true:=by rfl)
  (hline:(apos.endLine==cpos.line)=true:=by rfl) (hs:starEach (e ::es) X.env=(false,eval e X.env) ::starEach es X.env:=by rfl) (hplain:(backTo cpos (starEach es X.env)).any (·.1)=false:=by rfl):
  PE X (.Call (.Attribute o name apos) (e ::es) [] cpos) (tBM X.K T r to t):=by
 intro pins s σ H Q I h;refine wpAny_Call_method_late hbase hfew hline rfl (thn (ho pins s σ H _ I h) fun v s1 ⟨x,H1,I1,r1,ty,q1⟩=>?_);obtain⟨h1,h2⟩:=F9 I1 r1 ty
 refine⟨T,id,pa,slot,hty,h1,h2,?_⟩
 have hA:=ha cpos pins s1 σ H1 _ I1 q1
 rw[hs]at hA ⊢
 refine Calls.callWith_builtin (by show(false||(backTo cpos (starEach es X.env)).any (·.1))=false;rw[hplain]<;>rfl) (Calls.evalArgs_plain ?_)
 exact thn hA fun us s2 ⟨vs,H2,I2,r2,q2⟩=>hm pins s2 σ H2 x vs v us Q I2 r1 r2 q2
end
def MtM(X:Cx)(id:String)(r:V->List V->Hp->VK->Prop):Prop:=
 ∀(pins:List (Addr×Obj)) (s:Shared) (σ:St) (H:Hp) (x:V) (xs:List V) (v:Value) (us:List Value) (Q:VK),Inv X pins σ H s->RelV x v->Vals xs us->r x xs H Q ->
   wpAny (model X.prog X.w) X.A (call (.builtin id) (v ::us)) (EP X pins σ Q) X.xe s
theorem Vals.one:∀{x:V} {us:List Value},Vals [x] us->∃ u,us=[u] /\ RelV x u
 |_,_,.cons r .nil=>⟨_,rfl,r⟩
theorem Vals.two:∀{x y:V} {us:List Value},Vals [x,y] us->∃ u v,us=[u,v] /\ RelV x u /\ RelV y v
 |_,_,_,.cons r (.cons q .nil)=>⟨_,_,rfl,r,q⟩
theorem Vals.zero:∀{us:List Value},Vals [] us->us=[]
 |_,.nil=>rfl
theorem Vals.dropLast{xs:List V}{us:List Value}(h:Vals xs us):Vals xs.dropLast us.dropLast:=by
 induction h with
 |nil=>exact .nil
 | cons r t ih=>
   cases t with
   |nil=>exact .nil
   |cons q t'=>exact .cons r ih
theorem Vals.eraseIdx:∀{xs:List V} {us:List Value} (i:Nat),Vals xs us->Vals (xs.eraseIdx i) (us.eraseIdx i)
 |_,_,_,.nil=>.nil
 |_,_,0,.cons _ t=>t
 |_,_,i+1,.cons r t=>.cons r (Vals.eraseIdx i t)
theorem Vals.reverse{xs:List V}{us:List Value}(h:Vals xs us):Vals xs.reverse us.reverse:=by
 induction h with
 |nil=>exact .nil
 |cons r t ih=>rw[List.reverse_cons,List.reverse_cons];exact Vals.append ih (.cons r .nil)
theorem AZ{α:Type}(l:List α):l.eraseIdx (l.length - 1)=l.dropLast:=by
 induction l with
 |nil=>rfl
 | cons a r ih=>
   cases r with
   |nil=>rfl
   | cons b r=>
     have e:(a ::b ::r).length - 1=((b ::r).length - 1)+1:=by
      have h1:(a ::b ::r).length=r.length+2:=rfl
      have h2:(b ::r).length=r.length+1:=rfl
      omega
     rw[e,List.eraseIdx_cons_succ,ih]
     all_goals rfl
section
variable{X:Cx}{pins:List (Addr×Obj)}{σ:St}{H:Hp}{s:Shared}{l b:Addr}{xs ys zs:List V}
theorem Inv.EL{its its':List Value}{n:Nat}{f:Array Value->Array Value}{t':Nat}(I:Inv X pins σ H s)(hH:H l=some (.lst xs))
  (e:s.heap.get? l=some { cls:=.type "list",data:=.seq its.toArray n }) (hf:f its.toArray=its'.toArray) (hv:Vals ys its') (hz:ys.length<=sizeLine):
  Inv X pins σ (upd H l (.lst ys)) { s with heap:=s.heap.update l (Obj.mapSeq f),toks:=t' }:=by
 have q:=PySem.IsL.update e f;rw[hf]at q;refine I.write (x:=l) (e:=l) (by rw[hH];exact trivial) (.inl rfl) (fun b' u hb hu=>(Heap.get?_update_other s.heap (Obj.mapSeq f) (Ne.symm hb)).trans hu) ⟨_,q⟩ ?_
 exact⟨hz,its',_,hv,q⟩
theorem Inv.Ei{its:List Value}{t':Nat}(I:Inv X pins σ H s)(hv:Vals ys its)(hz:ys.length<=sizeLine):
  Inv X pins σ (upd H s.heap.objs.size (.lst ys)) { s with heap:=s.heap.push { cls:=.type "list",data:=.seq its.toArray },toks:=t' }:=
 I.laid (fun _ _ q=>Heap.get?_push_of_some _ q) (Nat.le_refl _) ⟨hz,its,0,hv,Heap.get?_push_size _ rfl⟩
theorem Inv.fresh(I:Inv X pins σ H s):H s.heap.objs.size=none:=I.hok.fresh (Nat.le_refl _)
theorem Inv.Gd(I:Inv X pins σ H s)(hH:H l=some (.lst xs)):xs.length<=sizeLine /\ ∃(its:List Value) (n:Nat),Vals xs its /\ xs.length=its.length /\ s.heap.get? l=some { cls:=.type "list",data:=.seq its.toArray n }:=by
 obtain⟨z,its,n,r,e⟩:=I.hok l _ hH
 exact⟨z,its,n,r,r.length,e⟩
theorem zL{n:Nat}(h:n<=sizeLine):Builtin.List.listTooLong n=false:=by
 unfold Builtin.List.listTooLong;exact decide_eq_false (by omega)
end
section
variable{X:Cx}
def yl:V->List V->Hp->VK->Prop:=fun x vs H Q=>∃ l xs y,x=.ref l /\ vs=[y] /\ H l=some (.lst xs) /\ xs.length<sizeLine /\ Q .non (upd H l (.lst (xs++[y])))
theorem ck:MtM X "list.append" yl:=by
 intro pins s σ H x vs v us Q I rx rv h;obtain⟨l,xs,y,rfl,rfl,hH,hz,q⟩:=h;cases rx;obtain⟨u,rfl,ru⟩:=rv.one;obtain⟨z,its,n,r,hl,e⟩:=I.Gd hH;refine call_meets F.slot_list_append ⟨_,e,rfl⟩ F.entry_list_append (F.args_list_append_2 _ _) (PySem.list_append l its.toArray n u (by rw[List.size_toArray];omega)) ⟨e,?_⟩
 refine⟨.non,_,I.EL (its':=its++[u]) hH e (by simp) (r.append (.cons ru .nil)) ?_,rfl,q⟩
 rw[List.length_append,List.length_singleton];omega
def Mm:V->List V->Hp->VK->Prop:=fun x vs H Q=>∃ l xs y,x=.ref l /\ vs=[] /\ H l=some (.lst xs) /\ xs[xs.length - 1]?=some y /\ Q y (upd H l (.lst xs.dropLast))
theorem FH:MtM X "list.pop" Mm:=by
 intro pins s σ H x vs v us Q I rx rv h;obtain⟨l,xs,y,rfl,rfl,hH,hy,q⟩:=h;cases rx;have hus:=rv.zero;subst hus;obtain⟨z,its,n,r,hl,e⟩:=I.Gd hH;obtain⟨u,hu,ru⟩:=r.get hy
 have hy':its.toArray[its.toArray.size - 1]?=some u:=by
  show its.toArray[its.length - 1]?=some u;rw[<- Array.getElem?_toList,<- hl];exact hu
 refine call_meets F.slot_list_pop ⟨_,e,rfl⟩ F.entry_list_pop (F.args_list_pop_1 _) (MeetsSeq.list_pop_last l its.toArray n u hy' (by rw[List.size_toArray];omega)) ⟨e,?_⟩
 refine⟨y,_,I.EL (its':=its.dropLast) hH e ?_ r.dropLast ?_,ru,q⟩
 . show its.toArray.eraseIdxIfInBounds (its.toArray.size - 1)=its.dropLast.toArray;rw[List.size_toArray,List.eraseIdxIfInBounds_toArray,AZ]
 . rw[List.length_dropLast];omega
def y6:V->List V->Hp->VK->Prop:=fun x vs H Q=>∃ l xs,x=.ref l /\ vs=[] /\ H l=some (.lst xs) /\ Q .non (upd H l (.lst xs.reverse))
theorem AO:MtM X "list.reverse" y6:=by
 intro pins s σ H x vs v us Q I rx rv h;obtain⟨l,xs,rfl,rfl,hH,q⟩:=h;cases rx;have hus:=rv.zero;subst hus;obtain⟨z,its,n,r,hl,e⟩:=I.Gd hH;refine call_meets F.slot_list_reverse ⟨_,e,rfl⟩ F.entry_list_reverse (F.args_list_reverse_1 _) (AutoSeq1.list_reverse_list_0 l its.toArray n (by rw[List.size_toArray];omega)) ⟨e,?_⟩
 refine⟨.non,_,I.EL (its':=its.reverse) hH e (by simp) r.reverse ?_,rfl,q⟩
 rw[List.length_reverse];omega
end
section
variable{prog:Program}{w:World}{A:Around}{E:Value->Shared->Prop}{s:Shared}
set_option maxRecDepth 100000 in
end
end L2
namespace Att
open PySem PySem.W PySem.Calls PyProof.Rows
theorem uI{P:Params}{h:Heap}:∀(ns:List Int) (vs:List Value),WellAll P h vs (ns.map WData.int)->IntsAre vs ns:=by
 intro ns
 induction ns with
 | nil=>
   intro vs w;rw[List.map_nil]at w;cases w;exact .nil
 | cons n ns ih=>
   intro vs w;rw[List.map_cons]at w
   cases w with
   | cons a b=>
     cases a;exact .cons _ _ (ih _ b)
theorem CS{l:OpenLaw}{n:Nat}(hn:l.most=some n){P:Params}{h:Heap}{args:List WData}{vals:List Value}
  (hpre:l.row.toRowW.claim.pre args=true) (hwl:WellAll P h vals args):
  ∃ a vs ns,vals=[Value.ref a] /\ args=[WData.list (ns.map WData.int)] /\ h.get? a=some { cls:=.type "list",data:=.seq vs.toArray } /\ IntsAre vs ns /\ ns.length<=n:=by
 have hsh:WShape.hasAll [] args [.list .int]=true:=(pre_splitW hpre).1
 have hc:l.pre.holds [] { args:=args }=true:=(pre_splitW hpre).2
 obtain⟨d,r,rfl,h1,h2⟩:=hasAllW_cons hsh
 obtain rfl:=hasAllW_nil h2
 obtain⟨xs,rfl,h3⟩:=hasW_list h1;obtain⟨ns,rfl⟩:=items_int h3
 have hlen:ns.length<=n:=by
  unfold OpenLaw.pre at hc
  have h4:(WTm.not (.lt (.lit (.int (n:Int))) (.len (.arg 0)))).holds [] { args:=[.list (ns.map .int)] }=true:=by
   have h4:=(holds_andW hc).1;rw[hn]at h4;exact h4
  have h5:=condW_of h4 (w_not (w_lt w_lit (w_len_list (w_arg rfl))));rw[List.length_map]at h5
  refine Nat.le_of_not_lt fun q=>?_
  have q':(n:Int)<((ns.length:Nat):Int):=by omega
  first
   |(rw[decide_eq_true q']at h5;exact absurd h5 (by decide))
   |(simp at h5;omega)
 cases hwl with
 | cons w1 w2=>
   cases w2
   cases w1 with
   |list ho hall=>exact⟨_,_,ns,rfl,rfl,ho,uI ns _ hall,hlen⟩
theorem C9(l:OpenLaw)(args:List WData):l.row.toRowW.claim.post args (.bool true) args=true:=
 postW_of (r:=l.row.toRowW) (X:=(true==true))
  (show WShape.has [] (.bool true) .bool=true by first|rfl|decide|simp[WShape.has,WShape.arms,WShape.armsAll])
  (show(WTm.eq .res (.lit (.bool true))).value [] { args:=args,res:=some (.bool true),after:=args }=some (.bool (true==true)) from w_eq_bool (w_res rfl) w_lit) rfl
theorem zg{l:OpenLaw}{n:Nat}{q:Program}{loose:List Str}{XP:(Str->Option Value)->Heap->Prop}{YP:World->Heap->Prop}{d:DefRec}
  (hn:l.most=some n) (hdf:d.params.defaults=[])
  (call:∀(w:World) (s₀ s₁:Shared) (mg mb:Str->Option Value) (fa:Addr) (o:Obj) (pm cd doc:Value) (a:Addr) (vs:List Value) (ns:List Int),
    Ground q loose [] XP w s₀ mg mb s₁.heap->YP w s₁.heap ->
    s₁.heap.get? fa=some o->o.data=.func (docDef d.name d.params d.body d.scope pm cd doc)->s₁.heap.CodeRec cd d.name->mg d.name=some (.ref fa) ->
    s₁.heap.get? a=some { cls:=.type "list",data:=.seq vs.toArray }->IntsAre vs ns->ns.length<=n->s₁.gens=#[] ->
    codeAny (model l.prog w) callerA (.call (.ref fa) ⟨[.ref a],[]⟩) (fun r s'=>r=.ok (.ret (.bool true)) /\ OldK s₁.heap s'.heap /\ s'.os=s₁.os /\ AllBare s'.gens) s₁):
  WalkO q loose XP YP l.row.toRowW d [] (fun f vs=>PySem.call f vs):=by
 intro w s₀ s₁ mg mb G Y fa o pm cd doc dV kV ho hd hcd hD hmg hg args vals as hpre hlay hrd hwl hlo
 obtain rfl:dV=.none:=Dflts.none hD hdf
 obtain rfl:kV=.none:=Dflts.noKw hD
 obtain⟨a,vs,ns,rfl,rfl,hobj,hints,hlen⟩:=CS hn hpre hwl;refine enter_call (codeAny_mono (call w s₀ s₁ mg mb fa o pm cd doc a vs ns G Y ho (fd_plain hd) hcd hmg hobj hints hlen hg) fun r s' hq=>?_);obtain⟨rfl,h2,h3,h4⟩:=hq
 exact⟨.inl ⟨.bool true,.bool true,[],rfl,fun _=>rfl,.bool true,C9 l _,fun _=>⟨List.Pairwise.nil,fun _ hm=>(nomatch hm)⟩⟩,h2,h3,h4⟩
end Att
namespace L2
open PySem PySem.Spec PyProof.Rows
theorem wL:∀{vs:List Value} {ns:List Int},IntsAre vs ns->Vals (ns.map V.int) vs
 |_,_,.nil=>.nil
 |_,_,.cons n t h=>.cons ⟨t,rfl⟩ (wL h)
def KJ(H:Hp):Prop:=∀ b,H b=none \/ ∃ o xs,H b=some (.frz o (.lst xs))
theorem DP{P:Program}{w:World}{K:PySem.W.Frag}{mg mb:Str->Option Value}{CX:CXT}{k:Nat}{fa a:Addr}{fd:FuncData}{x:Str}{sp:Sp}{s₁:Shared}{vs:List Value}{ns:List Int}
  (KX:K.In s₁.heap) (hns:s₁.heap.Ns mainGlobals mg) (hb:s₁.heap.Ns builtinsNs mb) (hbb:∀ x:Str,x ≠ "__name__" -> mb x=bootBuiltins x) (hlim:s₁.heap.NoLimit) (hg:s₁.gens=#[])
  (ha:s₁.heap.get? a=some { cls:=.type "list",data:=.seq vs.toArray }) (hi:IntsAre vs ns) (hl:ns.length<=sizeLine) (hr:ik k callerA)
  (F:∀ base:Heap,K.In base->base.Ns mainGlobals mg->cp P w K mg base CX k fa fd [x] sp) (hbind:∀(s:Shared) (u:Value),BindsTo s fd ⟨[u],[]⟩ [(x,u)])
  (hsp:∀ H:Hp,KJ H->SqL K H a (ns.map V.int)->sp [.ref a] H (fun v _=>v=.bl true) fun _ _ _=>False)
  (hCX:∀ H e s',CX [] H s₁ (fun _ _ _=>False) e s'->False):
  codeAny (model P w) callerA (.call (.ref fa) ⟨[.ref a],[]⟩) (fun r s'=>r=.ok (.ret (.bool true)) /\ OldK s₁.heap s'.heap /\ s'.os=s₁.os /\ AllBare s'.gens) s₁:=by
 have rv:=wL hi;have lenV:=hi.length
 have core:∀ H:Hp,KJ H->SqL K H a (ns.map V.int)->HOk P w H s₁.heap->(∀ b,H b≠none->b=a)->(H a≠none->K.lookup a=none) ->
   codeAny (model P w) callerA (.call (.ref fa) ⟨[.ref a],[]⟩) (fun r s'=>r=.ok (.ret (.bool true)) /\ OldK s₁.heap s'.heap /\ s'.os=s₁.os /\ AllBare s'.gens) s₁:=by
  intro H hO hS hok hA hK
  have base_of:∀{b:Addr} {o:Obj},s₁.heap.get? b=some o->H b=none->(xJ s₁.heap H).get? b=some o:=fun e n=>D8 e n
  have noA:∀{b:Addr} {o:Obj} {es:Array DictEntry} {ep:Nat},s₁.heap.get? b=some o->o.data=.dict es ep->H b=none:=fun {b o es ep} e d=>by
   cases q:H b with
   |none=>rfl
   | some u=>
     have e':b=a:=hA b (by rw[q];simp)
     subst e';rw[ha]at e;cases e
     have d':Data.seq vs.toArray _=Data.dict es ep:=d
     cases d'
  have nsK:∀{b:Addr} {m:Str->Option Value},s₁.heap.Ns b m->(xJ s₁.heap H).Ns b m:=fun {b m} ⟨o,es,ep,e,d,r⟩=>⟨o,es,ep,base_of e (noA e d),d,r⟩
  have hKb:K.In (xJ s₁.heap H):=fun b o e=>base_of (KX b o e) (by
   cases q:H b with
   |none=>rfl
   | some u=>
     have e':b=a:=hA b (by rw[q];simp)
     subst e'
     rw[hK (by rw[q];simp)]at e;cases e)
  have hM:Mod K mg (xJ s₁.heap H):=⟨hKb,nsK hns,⟨mb,nsK hb,hbb⟩,let ⟨mc,h1,h2⟩:=hlim;⟨mc,nsK h1,h2⟩⟩
  have e0:AU P w K mg (xJ s₁.heap H) callerA [] s₁ H:=⟨rfl,hM,fun b o e=>G8 e,Nat.le_of_eq (CJ _ _),trivial,fun b hb=>absurd (show b∈([]:List Addr) from hb) (by simp),hok,.of_eq hg⟩
  refine codeAny_mono ((F _ hKb (nsK hns)).run callerA [] s₁ H ⟨[.ref a],[]⟩ [.ref a] [.ref a] _ _ hr e0 (hbind s₁ (.ref a)) (.cons rfl .nil) (hsp H hO hS)) fun r s' h=>?_
  cases r with
  |error e=>exact(hCX H e s' h).elim
  | ok fl=>
    cases fl with
    |next=>exact False.elim h
    |brk=>exact False.elim h
    |cont=>exact False.elim h
    | ret u=>
      obtain⟨v,H',os,bare,un,hok',r',q⟩:=h
      have q':v=.bl true:=q
      subst q'
      obtain rfl:u=Value.bool true:=r'
      refine⟨rfl,OldK.of_keep fun b o e=>?_,os,bare⟩
      cases q:H b with
      |none=>exact un.keep b o e q (by intro z;exact absurd (show b∈([]:List Addr) from z) (by simp)) (by simp)
      | some u=>
        rcases hO b with z|⟨ob,xs,z⟩
        . rw[q]at z;cases z
        . have z2:=un.frzs b ob _ z;obtain⟨e1,_⟩:=hok b _ z;obtain⟨e2,_⟩:=hok' b _ z2;rw[e]at e1;cases e1;exact e2
 cases hk:K.lookup a with
 | some o=>
   have e:=KX a o hk;rw[ha]at e;cases e
   refine core (fun _=>none) (fun _=>.inl rfl) (.inr ⟨_,vs.toArray,_,hk,rfl,rfl,rfl,by rw[List.size_toArray,lenV];exact hl,by simpa using rv⟩) (fun b u z=>by have z':(none:Option HO)=some u:=z;cases z') (fun b z=>absurd rfl z) fun z=>absurd rfl z
 | none=>
   refine core (fun b=>if b=a then some (.frz { cls:=.type "list",data:=.seq vs.toArray } (.lst (ns.map V.int)))else none) (fun b=>?_) (.inl (.inr ⟨{ cls:=.type "list",data:=.seq vs.toArray },if_pos rfl⟩)) (fun b u z=>?_) (fun b z=>?_) fun _=>hk
   . by_cases hb:b=a
     . exact .inr ⟨_,_,if_pos hb⟩
     . exact .inl (if_neg hb)
   . by_cases hb:b=a
     . have z':=(if_pos hb).symm.trans z
       cases z'
       subst hb
       exact⟨ha,by rw[List.length_map];exact hl,vs,_,rv,ha⟩
     . have z':=(if_neg hb).symm.trans z
       cases z'
   . by_cases hb:b=a
     . exact hb
     . exact absurd (if_neg hb) z
abbrev KOf{K:PySem.W.Frag}{h:Heap}(_:K.In h):PySem.W.Frag:=K
theorem Ia{l:PySem.W.OpenLaw}{n k:Nat}{q:Program}{loose:List Str}{XP:(Str->Option Value)->Heap->Prop}{YP:World->Heap->Prop}{d:DefRec}{K:Params->PySem.W.Frag}{CX:World->CXT}{sp:World->Sp}{x:Str}
  (hn:l.most=some n) (hn2:n<=sizeLine) (hdf:d.params.defaults=[]) (hr:ik k callerA)
  (hY:∀(w:World) (h:Heap),YP w h->(K w.params).In h)
  (F:∀(w:World) (mg:Str->Option Value) (fa:Addr) (h:Heap),(K w.params).In h->h.Ns mainGlobals mg->mg d.name=some (.ref fa) ->
    ∃ fd:FuncData,(∀(s:Shared) (u:Value),BindsTo s fd ⟨[u],[]⟩ [(x,u)]) /\
      ∀ base:Heap,(K w.params).In base->base.Ns mainGlobals mg->cp l.prog w (K w.params) mg base (CX w) k fa fd [x] (sp w))
  (hsp:∀(w:World) (H:Hp) (a:Addr) (ns:List Int),ns.length<=n->KJ H->SqL (K w.params) H a (ns.map V.int)->sp w [.ref a] H (fun v _=>v=.bl true) fun _ _ _=>False)
  (hCX:∀(w:World) (H:Hp) (s:Shared) (e:Value) (s':Shared),CX w [] H s (fun _ _ _=>False) e s'->False):
  PySem.W.WalkO q loose XP YP l.row.toRowW d [] (fun f vs=>PySem.call f vs):=by
 refine Att.zg hn hdf fun w s₀ s₁ mg mb fa o pm cd doc a vs ns G Y ho hd hcd hmg hobj hints hlen hg=>?_
 have KX:=hY w _ Y;obtain⟨fd,hb,hF⟩:=F w mg fa _ KX G.T.g hmg
 exact DP KX G.T.g G.T.b G.T.builtins G.T.nolimit hg hobj hints (Nat.le_trans hlen hn2) hr hF hb (fun H hO hS=>hsp w H a ns hlen hO hS) fun H e s'=>hCX w H s₁ e s'
def inClass(s:Stmt)(j:Nat):Stmt:=match s with
 |.ClassDef _ _ _ body _ _ _ _ _ _ _=>body.getD j (.Pass ⟨0,0,0,0⟩)
 |_=>.Pass ⟨0,0,0,0⟩
def eS(s:Stmt):Arguments:=match s with
 |.FunctionDef _ a _ _ _ _ _ _ _ _=>a
 |_=>{ posonlyargs:=[],args:=[],vararg:=none,kwonlyargs:=[],kw_defaults:=[],kwarg:=none,defaults:=[] }
def dF(s:Stmt):List Stmt:=match s with
 |.FunctionDef _ _ b _ _ _ _ _ _ _=>b
 |_=>[]
def aC(s:Stmt):Scope:=match s with
 |.FunctionDef _ _ _ _ _ _ sc _ _ _=>sc
 |_=>{ kind:=.function,names:=[],isGenerator:=false,isCoroutine:=false }
structure Fun(K:PySem.W.Frag)(x qual:Str)(st:Stmt)(f:Addr)(fd:FuncData):Prop where
 ex:∃(oc:Value) (od:Option Addr) (kV doc pm:Value) (an:Option Addr) (cdv ct:Value) (osl:Array (Option Value)),
  fd=PySem.W.fnOf x qual (eS st) (dF st) (aC st) .none kV doc pm an cdv ct /\ K.lookup f=some ⟨oc,od,.func fd,osl⟩ /\ PySem.W.codeIn K cdv qual=true
 kp:PySem.W.keepIn K (.ref f)=true
section
variable{P:Program}{w:World}{K:PySem.W.Frag}{mg:Str->Option Value}{base:Heap}
theorem Fun.binds{x qual:Str}{st:Stmt}{f:Addr}{fd:FuncData}{ps:List Str}(F:Fun K x qual st f fd)
  (h:∀(kV doc pm:Value) (an:Option Addr) (cdv ct:Value) (us:List Value),us.length=ps.length->bindArgs (PySem.W.fnOf x qual (eS st) (dF st) (aC st) .none kV doc pm an cdv ct) ⟨us,[]⟩=pure (ps.zip us)):Binds K fd ps []:=by
 obtain⟨oc,od,kV,doc,pm,an,cdv,ct,osl,rfl,lk,hcd⟩:=F.ex;exact .all (h kV doc pm an cdv ct)
theorem lG{x qual:Str}{st:Stmt}{f:Addr}{oc:Value}{od an:Option Addr}{osl:Array (Option Value)}{kV doc pm cdv ct:Value}(l:K.lookup f=some ⟨oc,od,.func (PySem.W.fnOf x qual (eS st) (dF st) (aC st) .none kV doc pm an cdv ct),osl⟩)
  (c:PySem.W.codeIn K cdv qual=true) (k:PySem.W.keepIn K (.ref f)=true):Fun K x qual st f (PySem.W.fnOf x qual (eS st) (dF st) (aC st) .none kV doc pm an cdv ct):=⟨⟨oc,od,kV,doc,pm,an,cdv,ct,osl,rfl,l,c⟩,k⟩
end
theorem IV{A:Around}{k:Nat}(hr:ik k A):A.units+1<cLine:=Nat.lt_of_le_of_lt (Nat.add_le_add_left (by decide:1<=64) _) hr.units
section
variable{X:Cx}
theorem pv(i:Nat){x:Str}{pos:Pos}(hN:X.N[i]?=some x:=by rfl)(hv:Vis X.env.scope x:=by first|exact Or.inl rfl|exact Or.inr (Or.inl rfl)|exact Or.inr (Or.inr rfl))(hd:(x==("__debug__":Str))=false:=by decide)
  (hcd:(x==("__classdict__":Str))=false:=by decide):PE X (.Name x pos) (zd i):=Li hN hv hd hcd
end
theorem Al{A B:Prop}(h:B):if false=true then A else B:=by
 rw[if_neg Bool.false_ne_true];exact h
theorem Ar{A B:Prop}(h:A):if true=true then A else B:=by
 rw[if_pos rfl];exact h
def aK(H H':Hp):Prop:=∀ b o,H b=some o->H' b=some o
theorem aK.refl(H:Hp):aK H H:=fun _ _ h=>h
theorem aK.trans{H H1 H2:Hp}(a:aK H H1)(b:aK H1 H2):aK H H2:=fun c o h=>b c o (a c o h)
theorem aK.free{H H':Hp}(e:aK H H'){l:Addr}(h:H' l=Option.none):H l=Option.none:=by
 cases q:H l with
 |none=>rfl
 | some o=>
   rw[e l o q]at h;cases h
theorem aK.seq{K:PySem.W.Frag}{H H':Hp}{a:Addr}{xs:List V}(e:aK H H')(h:SqL K H a xs):SqL K H' a xs:=by
 rcases h with(h|⟨o,h⟩)|h
 . exact .inl (.inl (e _ _ h))
 . exact .inl (.inr ⟨o,e _ _ h⟩)
 . exact .inr h
section
variable{κ:Type}[DecidableEq κ]
def mN(kvs:List (κ×V))(k:κ):Option V:=(kvs.find? fun kv=>decide (kv.1=k)).map (·.2)
def putK(kvs:List (κ×V))(k:κ)(v:V):List (κ×V):=
 if(kvs.any fun kv=>decide (kv.1=k))=true then kvs.map (fun kv=>if kv.1=k then(kv.1,v)else kv)else kvs++[(k,v)]
theorem vm{p:κ×V}{r:List (κ×V)}{k:κ}(e:p.1=k):mN (p ::r) k=some p.2:=by simp[mN,List.find?_cons,e]
theorem vQ{p:κ×V}{r:List (κ×V)}{k:κ}(e:¬ p.1=k):mN (p ::r) k=mN r k:=by simp[mN,List.find?_cons,e]
theorem zY(k:κ):∀ kvs:List (κ×V),(kvs.any fun kv=>decide (kv.1=k))=(mN kvs k).isSome
 |[]=>rfl
 | p ::r=>by
   rw[List.any_cons]
   by_cases e:p.1=k
   . simp only[vm e,decide_eq_true e,Bool.true_or,Option.isSome_some]
   . rw[vQ e,decide_eq_false e,Bool.false_or];exact zY k r
theorem zi(kvs:List (κ×V))(k:κ)(v:V):(putK kvs k v).length<=kvs.length+1:=by
 unfold putK;split
 . rw[List.length_map];omega
 . rw[List.length_append,List.length_cons,List.length_nil];omega
theorem E2{kvs:List (κ×V)}{k:κ}(v:V)(h:mN kvs k=none):putK kvs k v=kvs++[(k,v)]:=by
 unfold putK;rw[zY,h];exact if_neg (by decide)
theorem bx.xj{o:Option V}{u:Option Value}(r:bx o u):o.isSome=u.isSome:=by
 cases o with
 | none=>cases u with
   |none=>rfl
   |some _=>exact(show False from r).elim
 | some _=>cases u with
   |none=>exact(show False from r).elim
   |some _=>rfl
theorem bx.getD{o:Option V}{u:Option Value}{d:V}{d':Value}(r:bx o u)(rd:RelV d d'):RelV (o.getD d) (u.getD d'):=by
 cases o with
 | none=>cases u with
   |none=>exact rd
   |some _=>exact(show False from r).elim
 | some _=>cases u with
   |none=>exact(show False from r).elim
   |some _=>exact r
theorem KV.val{kvs:List (κ×V)}{vs:List (κ×Value)}(r:KV kvs vs)(k:κ):bx (mN kvs k) (valueAt vs k):=by
 unfold KV at r
 induction r with
 |nil=>exact True.intro
 | @cons p q ps qs h t ih=>
   obtain⟨h1,h2⟩:=h
   by_cases e:p.1=k
   . have e':q.1=k:=h1.symm.trans e
     have b:valueAt (q ::qs) k=some q.2:=by simp[valueAt,List.find?_cons,e']
     rw[vm e,b];exact h2
   . have e':¬ q.1=k:=fun z=>e (h1.trans z)
     have b:valueAt (q ::qs) k=valueAt qs k:=by simp[valueAt,List.find?_cons,e']
     rw[vQ e,b];exact ih
theorem KV.any{kvs:List (κ×V)}{vs:List (κ×Value)}(r:KV kvs vs)(k:κ):(kvs.any fun kv=>decide (kv.1=k))=vs.any fun kv=>decide (kv.1=k):=by
 unfold KV at r
 induction r with
 |nil=>rfl
 |cons h t ih=>rw[List.any_cons,List.any_cons,ih,h.1]
theorem KV.Nt{kvs:List (κ×V)}{vs:List (κ×Value)}(r:KV kvs vs)(k:κ){y:V}{u:Value}(ry:RelV y u):
  KV (kvs.map fun kv=>if kv.1=k then(kv.1,y)else kv) (vs.map fun kv=>if kv.1=k then(kv.1,u)else kv):=by
 unfold KV at r ⊢
 induction r with
 |nil=>exact .nil
 | @cons p q ps qs h t ih=>
   rw[List.map_cons,List.map_cons];refine .cons ?_ ih;obtain⟨h1,h2⟩:=h
   by_cases e:p.1=k
   . rw[if_pos e,if_pos (h1.symm.trans e)];exact⟨h1,ry⟩
   . rw[if_neg e,if_neg (fun z=>e (h1.trans z))];exact⟨h1,h2⟩
theorem KV.put{kvs:List (κ×V)}{vs:List (κ×Value)}(r:KV kvs vs)(k:κ){y:V}{u:Value}(ry:RelV y u):KV (putK kvs k y) (stored vs k u):=by
 unfold putK stored;rw[r.any k]
 by_cases e:(vs.any fun kv=>decide (kv.1=k))=true
 . rw[if_pos e,if_pos e];exact r.Nt k ry
 . rw[if_neg e,if_neg e];exact Paired.snoc r ⟨rfl,ry⟩
end
theorem Cg{P:Program}{w:World}{k:Key}{u:Value}(r:RelV (kV k) u):(fP P w).is k u=true:=by
 cases k with
 |inl i=>obtain⟨t,e⟩:=(show ∃ t,u=Value.int i t from r);subst e;exact zD P w i t
 |inr x=>obtain⟨t,e⟩:=(show ∃ t,u=Value.str x t from r);subst e;exact zr P w x t
theorem xm{P:Program}{w:World}:∀{ks:List Key} {us:List Value},Vals (ks.map kV) us->ItemsAre (fP P w) ks us
 |[],_,r=>by rw[List.map_nil]at r;cases r;exact .nil
 | k ::ks,_,r=>by
   rw[List.map_cons]at r
   cases r with
   |cons h t=>exact .cons (Cg h) (xm t)
abbrev KT(H:Hp):List (List Key×V)->List (List Key×Addr×Value)->Prop:=Paired fun p q=>p.1=q.1 /\ H q.2.1=some (.tup (p.1.map kV)) /\ RelV p.2 q.2.2
theorem KT.val{H:Hp}{kvs:List (List Key×V)}{xs:List (List Key×Addr×Value)}(r:KT H kvs xs)(k:List Key):bx (mN kvs k) ((atKey xs k).map (·.2)):=by
 induction r with
 |nil=>exact True.intro
 | @cons p q ps qs h t ih=>
   obtain⟨h1,_,h2⟩:=h
   by_cases e:p.1=k
   . have e':q.1=k:=h1.symm.trans e
     have b:atKey (q ::qs) k=some q.2:=by simp[atKey,List.find?_cons,e']
     rw[vm e,b];exact h2
   . have e':¬ q.1=k:=fun z=>e (h1.trans z)
     have b:atKey (q ::qs) k=atKey qs k:=by simp[atKey,List.find?_cons,e']
     rw[vQ e,b];exact ih
theorem KT.keeps{H H':Hp}{kvs:List (List Key×V)}{xs:List (List Key×Addr×Value)}(r:KT H kvs xs)(ht:∀ b ys,H b=some (.tup ys)->H' b=some (.tup ys)):KT H' kvs xs:=
 Paired.Jo r fun _ _ z=>⟨z.1,ht _ _ z.2.1,z.2.2⟩
section
variable{P:Program}{w:World}{H:Hp}{h:Heap}{a:Addr}
theorem IS{u:HO}(ok:HOk P w H h)(e:Rd H a u):gq P w H h a u:=e.ok ok
theorem B4{kvs:List (Key×V)}(ok:HOk P w H h)(e:Rd H a (.dK kvs)):kvs.length<=sizeLine /\ (a==sysModules)=false /\ ∃ vs,KV kvs vs /\ h.DictOf (fP P w) a vs:=
 show gq P w H h a (.dK kvs) from IS ok e
theorem Mb{kvs:List (Key×V)}(ok:HOk P w H h)(e:H a=some (.dK kvs)):kvs.length<=sizeLine /\ (a==sysModules)=false /\ ∃ vs,KV kvs vs /\ h.DictOf (fP P w) a vs:=B4 ok (.inl e)
theorem Bb{ks:List Key}(ok:HOk P w H h)(e:H a=some (.tup (ks.map kV))):(tupleKind (fP P w)).is h ks a:=by
 obtain⟨_,its,r,o,h1,h2,n,h3⟩:=(show gq P w H h a (.tup (ks.map kV)) from ok a _ e)
 exact⟨o,its.toArray,n,h1,h2,h3,by simpa using xm r⟩
theorem D2{kvs:List (List Key×V)}(ok:HOk P w H h)(e:Rd H a (.dT kvs)):kvs.length<=sizeLine /\ (a==sysModules)=false /\
  ∃ xs,KT H kvs xs /\ h.DictOfH (tupleKind (fP P w)) a xs:=by
 obtain⟨z,y,xs,r,o,es,ep,h1,h2,h3,h4,h5⟩:=(show gq P w H h a (.dT kvs) from IS ok e)
 refine⟨z,y,xs,r,o,es,ep,h1,h2,h3,h4,fun x hx=>?_,h5⟩
 have all:∀{l:List (List Key×V)} {m:List (List Key×Addr×Value)},KT H l m->∀ x∈m,(tupleKind (fP P w)).is h x.1 x.2.1:=by
  intro l m q
  induction q with
  |nil=>intro x hx;exact nomatch hx
  | @cons p q ps qs hq t ih=>
    intro x hx
    rcases List.mem_cons.mp hx with e|hx
    . subst e;exact Bb ok (by rw[<- hq.1];exact hq.2.1)
    . exact ih x hx
 exact all r x hx
end
def xR(H:Hp)(a:Addr)(y:V)(r:Option V):Prop:=
 (∃ kvs k,Rd H a (.dK kvs) /\ y=kV k /\ r=mN kvs k) \/ ∃ kvs k b,Rd H a (.dT kvs) /\ y=.ref b /\ H b=some (.tup (k.map kV)) /\ r=mN kvs k
theorem xR.k{H:Hp}{a:Addr}{kvs:List (Key×V)}{k:Key}(e:H a=some (.dK kvs)):xR H a (kV k) (mN kvs k):=.inl ⟨kvs,k,.inl e,rfl,rfl⟩
section
variable{X:Cx}{pins:List (Addr×Obj)}{σ:St}{H:Hp}{s:Shared}{a:Addr}{y v:V}{u r:Value}{o:Option V}{A:Around}{E:Value->Shared->Prop}
theorem Inv.big(I:Inv X pins σ H s):sysModules<s.heap.objs.size:=by
 have h:mainGlobals<s.heap.objs.size:=(I.mod.glob.keeps I.bk).lt
 exact Nat.lt_trans (by decide) h
theorem DB{Q:Value->Shared->Prop}(hu:A.units+1<cLine)(I:Inv X pins σ H s)(g:xR H a y (some v))(ry:RelV y u)(h:∀ w' s',Inv X pins σ H s'->RelV v w'->Q w' s'):
  wpAny (model X.prog X.w) A (getItem (.ref a) u) Q E s:=by
 rcases g with⟨kvs,k,e,ey,l⟩|⟨kvs,k,b,e,ey,eb,l⟩
 . subst ey;obtain⟨z,hd,vs,rel,dd⟩:=B4 I.hok e;obtain⟨w',hw,rw'⟩:=bx.some_of (v:=v) (o:=valueAt vs k) (by rw[l];exact rel.val k);exact wpAny_getItem_of (Cg ry) dd.mapOf hw (h w' _ (I.tok _) rw')
 . subst ey
   cases(show u=Value.ref b from ry)
   obtain⟨z,hd,xs,rel,dd⟩:=D2 I.hok e;obtain⟨w',hw,rw'⟩:=bx.some_of (v:=v) (o:=(atKey xs k).map (·.2)) (by rw[l];exact rel.val k);obtain⟨p,hp,hp2⟩:=Option.map_eq_some_iff.mp hw;refine wpAny_getItem_heap (tupleKind_room_in1 hu) (Bb I.hok eb) dd hp ?_;rw[hp2];exact h w' _ (I.tok _) rw'
theorem Nh{Q:Value->Shared->Prop}(hu:A.units+1<cLine)(I:Inv X pins σ H s)(g:xR H a y o)(ry:RelV y u)(h:∀ s',Inv X pins σ H s'->Q (.bool o.isSome) s'):
  wpAny (model X.prog X.w) A (compareOp .In u (.ref a)) Q E s:=by
 rcases g with⟨kvs,k,e,ey,l⟩|⟨kvs,k,b,e,ey,eb,l⟩
 . subst ey;obtain⟨z,hd,vs,rel,dd⟩:=B4 I.hok e;refine wpAny_in_of (Cg ry) hd dd.mapOf ?_;rw[<- (rel.val k).xj,<- l];exact h _ (I.tok _)
 . subst ey
   cases(show u=Value.ref b from ry)
   obtain⟨z,hd,xs,rel,dd⟩:=D2 I.hok e;refine wpAny_in_heap (tupleKind_room_in1 hu) (Bb I.hok eb) hd dd ?_;have q:=(rel.val k).xj;rw[Option.isSome_map]at q;rw[<- q,<- l];exact h _ (I.tok _)
theorem GF{h':Heap}{t':Nat}{ob:HO}(I:Inv X pins σ H s)(mu:Mut (H a))(hs:Heap.SameBut a s.heap h')(he:∃ q,h'.get? a=some q)(new:gq X.prog X.w (upd H a ob) h' a ob):
  Inv X pins σ (upd H a ob) { s with heap:=h',toks:=t' }:=
 I.write (x:=a) (e:=a) mu (.inl rfl) (fun b q hb z=>(hs.2 b hb).trans z) he new
theorem KL{P:Program}{w:World}{H':Hp}{h':Heap}{kvs:List (Key×V)}{vs:List (Key×Value)}(z:kvs.length<=sizeLine)(hd:(a==sysModules)=false)(rel:KV kvs vs)(dd:h'.DictOf (fP P w) a vs):
  gq P w H' h' a (.dK kvs):=⟨z,hd,vs,rel,dd⟩
end
def Lw(i:Expr):Prop:=∀ ov iv,subscripted i false ov iv=operate [ov,iv] (getItem ov iv)
theorem HB{prog:Program}{w:World}{A:Around}{E:Value->Shared->Prop}{s:Shared}{env:Env}{value slice:Expr}{pos:Pos}{T id:String}{Q:Value->Shared->Prop}
  (hl:typeLookup (.type T) "__getitem__" = pure (some (.builtin id))) (hs:Lw slice)
  (h:wpAny (model prog w) A (eval value env) (fun o s₁=>wpAny (model prog w) A (eval slice env) (fun i s₂=>s₂.TypeIs o T /\ wpAny (model prog w) A (getItem o i) Q E s₂) E s₁) E s):
  wpAny (model prog w) A (eval (.Subscript value slice pos) env) Q E s:=by
 refine Subscript_ (wpAny_mono h (fun o s₁ h₁=>wpAny_mono h₁ (fun i s₂ h₂=>?_) fun _ _ x=>x) fun _ _ x=>x);obtain⟨hT,h₂⟩:=h₂;unfold subscriptTail;refine wpAny_bind ?_;rw[getitemInPython_of_ne hT.not_modules];refine wpAny_bind (wpAny_specialOf hT hl ?_)
 have fin:wpAny (model prog w) A (subscripted slice false o i) (fun r s₃=>wpAny (model prog w) A (letTemporaryGo value o r >>= fun _=>pure r) Q E s₃) E s₂:=by
  rw[hs o i];exact wpAny_operating (wpAny_mono h₂ (fun r s₃ h₃=>wpAny_bind (wpAny_letTemporaryGo (wpAny_pure h₃))) fun _ _ x=>x)
 first
  |exact wpAny_pure (wpAny_bind fin)
  |exact wpAny_bind (wpAny_pure (wpAny_bind fin))
  |exact wpAny_bind fin
theorem Ad{X:Cx}{pins:List (Addr×Obj)}{σ:St}{H:Hp}{s:Shared}{a:Addr}{y:V}{o:Option V}(I:Inv X pins σ H s)(g:xR H a y o):s.TypeIs (.ref a) "dict":=by
 rcases g with⟨kvs,k,e,_,_⟩|⟨kvs,k,b,e,_,_,_⟩
 . obtain⟨_,_,vs,_,dd⟩:=B4 I.hok e;exact dd.typeIs
 . obtain⟨_,_,xs,_,dd⟩:=D2 I.hok e;exact dd.typeIs
def D3(td ty:TE):TE:=fun σ H Q=>td σ H fun x H1=>ty σ H1 fun y H2=>∃ a v,x=.ref a /\ xR H2 a y (some v) /\ Q v H2
def Kz(ty td:TE):TE:=fun σ H Q=>ty σ H fun y H1=>td σ H1 fun x H2=>∃ a o,x=.ref a /\ xR H2 a y o /\ Q (.bl o.isSome) H2
section
variable{X:Cx}{o i e value:Expr}{pos pos' tpos:Pos}{td ty tv:TE}
theorem Hq(hu:X.A.units+1<cLine)(ho:PE X o td)(hi:PE X i ty)(hs:Lw i):PE X (.Subscript o i pos) (D3 td ty):=by
 intro pins s σ H Q I h;refine HB PySem.F.slot_dict_getitem.lookup hs (thn (ho pins s σ H _ I h) fun u s1 ⟨x,H1,I1,rx,q1⟩=>thn (hi pins s1 σ H1 _ I1 q1) fun iv s2 ⟨y,H2,I2,ry,a,v,ex,g,q2⟩=>?_);subst ex
 obtain rfl:u=Value.ref a:=rx
 exact⟨Ad I2 g,DB hu I2 g ry fun w' s3 I3 rw'=>⟨v,H2,I3,rw',q2⟩⟩
theorem Kn(hu:X.A.units+1<cLine)(hi:PE X i ty)(ho:PE X o td):PC X .In i o (Kz ty td):=by
 intro pins s σ H Q I h
 refine thn (hi pins s σ H _ I h) fun iv s1 ⟨y,H1,I1,ry,q1⟩=>thn (ho pins s1 σ H1 _ I1 q1) fun u s2 ⟨x,H2,I2,rx,a,ov,ex,g,q2⟩=>?_
 subst ex
 obtain rfl:u=Value.ref a:=rx
 exact Nh hu I2 g ry fun s3 I3=>⟨.bl ov.isSome,H2,I3,rfl,q2⟩
end
theorem F0{P:Program}{w:World}{H:Hp}(h:Heap)(hb:sysModules<h.objs.size):gq P w H (h.push { cls:=.type "dict",data:=.dict #[] }) h.objs.size (.dK []):=
 ⟨Nat.zero_le _,beq_eq_false_iff_ne.mpr (Ne.symm (Nat.ne_of_lt hb)),[],.nil,Heap.DictOf.new h⟩
def xW:List (TE×TE)->St->Hp->(List (V×V)->Hp->Prop)->Prop
 |[],_,H,Q=>Q [] H
 |(tk,tv) ::r,σ,H,Q=>tk σ H fun x H1=>tv σ H1 fun y H2=>xW r σ H2 fun ps H3=>Q ((x,y) ::ps) H3
abbrev VV:List (V×V)->List (Value×Value)->Prop:=Paired fun p q=>RelV p.1 q.1 /\ RelV p.2 q.2
def PPs(X:Cx)(pos:Pos)(keys:List (Option Expr))(values:List Expr)(trs:List (TE×TE)):Prop:=
 ∀(pins:List (Addr×Obj)) (s:Shared) (σ:St) (H:Hp) (Q:List (V×V)->Hp->Prop),Inv X pins σ H s->xW trs σ H Q ->
   wpAny (model X.prog X.w) X.A (evalPairs (pairTrees keys values X.env pos)) (fun vs s'=>∃ ps H',Inv X pins σ H' s' /\ VV ps vs /\ Q ps H') X.xe s
theorem G4{X:Cx}{pos:Pos}:PPs X pos [] [] []:=fun pins s σ H Q I h=>pairTrees_nil_walk ⟨[],H,I,.nil,h⟩
theorem EE{X:Cx}{pos:Pos}{k v:Expr}{ks:List (Option Expr)}{vs:List Expr}{tk tv:TE}{trs:List (TE×TE)}(hk:PE X k tk)(hv:PE X v tv)(hr:PPs X pos ks vs trs):
  PPs X pos (some k ::ks) (v ::vs) ((tk,tv) ::trs):=fun pins s σ H Q I h=>
 pairTrees_cons_walk (thn (hk pins s σ H _ I h) fun u s1 ⟨x,H1,I1,rx,q1⟩=>thn (hv pins s1 σ H1 _ I1 q1) fun w2 s2 ⟨y,H2,I2,ry,q2⟩=>
  thn (hr pins s2 σ H2 _ I2 q2) fun ws s3 ⟨ps,H3,I3,rel,q3⟩=>⟨(x,y) ::ps,H3,I3,.cons ⟨rx,ry⟩ rel,q3⟩)
def pL(kvs more:List (Key×V)):List (Key×V):=more.foldl (fun acc kv=>putK acc kv.1 kv.2) kvs
theorem KV.merge:∀{more:List (Key×V)} {rs:List (Key×Value)} {kvs:List (Key×V)} {vs:List (Key×Value)},KV more rs->KV kvs vs->KV (pL kvs more) (merged vs rs):=by
 intro more rs kvs vs r;unfold KV at r
 induction r generalizing kvs vs with
 |nil=>intro q;exact q
 | @cons p q ps qs h t ih=>
   intro r0
   have e:KV (putK kvs p.1 p.2) (stored vs q.1 q.2):=by
    have:=r0.put p.1 h.2;rw[<- h.1];exact this
   exact ih e
theorem qt:∀(more kvs:List (Key×V)),(pL kvs more).length<=kvs.length+more.length
 |[],kvs=>by show kvs.length<=kvs.length+0;omega
 | p ::r,kvs=>by
   have h1:=qt r (putK kvs p.1 p.2);have h2:=zi kvs p.1 p.2
   show(pL (putK kvs p.1 p.2) r).length<=_
   rw[List.length_cons];omega
theorem wx{P:Program}{w:World}:∀{kvs:List (Key×V)} {ws:List (Value×Value)},VV (kvs.map fun kv=>(kV kv.1,kv.2)) ws->∃ rs,Carries (fP P w) ws rs /\ KV kvs rs
 |[],_,r=>by rw[List.map_nil]at r;cases r;exact⟨[],True.intro,.nil⟩
 | p ::kvs,_,r=>by
   rw[List.map_cons]at r
   cases r with
   | @cons a b as bs h t=>
     obtain⟨rs,c,q⟩:=wx (P:=P) (w:=w) t;obtain⟨b1,b2⟩:=b
     exact⟨(p.1,b2) ::rs,⟨Cg h.1,rfl,c⟩,.cons ⟨rfl,h.2⟩ q⟩
def F6(trs:List (TE×TE)):TE:=fun σ H Q=>∀ p,H p=none->xW trs σ (upd H p (.dK [])) fun ps H2=>H2 p=some (.dK []) /\ ∃ kvs:List (Key×V),ps=kvs.map (fun kv=>(kV kv.1,kv.2)) /\ kvs.length<=15 /\ Q (.ref p) (upd H2 p (.dK (pL [] kvs)))
theorem Ig{X:Cx}{pos:Pos}{keys:List (Option Expr)}{values:List Expr}{trs:List (TE×TE)}(h:PPs X pos keys values trs)(hall:keys.all (·.isSome)=true)(hl:keys.length=values.length)(h0:keys≠[])
  (h15:keys.length<=15):PE X (.Dict keys values pos) (F6 trs):=by
 intro pins s σ H Q I q;have hn:=I.hok.fresh (Nat.le_refl s.heap.objs.size);have I1:=I.laid (a:=s.heap.objs.size) (o:=.dK []) (h':=s.heap.push { cls:=.type "dict",data:=.dict #[] }) (t':=s.toks) (fun _ _ q=>Heap.get?_push_of_some _ q) (Nat.le_refl _) (F0 s.heap I.big);refine wpAny_Dict_walk (knd:=fP X.prog X.w) hall hl h0 h15 (thn (h pins _ σ _ _ I1 (q _ hn)) fun ws s2 ⟨ps,H2,I2,rel,e,kvs,ep,lk,q2⟩=>?_);subst ep;obtain⟨rs,c,rk⟩:=wx (P:=X.prog) (w:=X.w) rel;obtain⟨z,hd,vs0,r0,dd⟩:=Mb I2.hok e;cases r0
 refine⟨rs,c,dd,fun h' dd' hs=>⟨.ref s.heap.objs.size,_,?_,rfl,q2⟩⟩
 have hz:(pL [] kvs).length<=sizeLine:=by
  have h1:=qt kvs [];rw[List.length_nil]at h1;rw[sizeLine_eq];omega
 have he:∃ q,h'.get? s.heap.objs.size=some q:=let ⟨q,_,_,hq,_⟩:=dd';⟨q,hq⟩
 exact GF I2 (by rw[e];exact True.intro) hs he (KL hz hd (rk.merge .nil) dd')
end L2
set_option maxHeartbeats 4000000
namespace L2.E
open PySem PySem.Spec PyProof.Rows
def JG(a C:Addr)(dx:Option Addr)(h:Heap):Prop:=∃ o vs,h.get? a=some o /\ o.cls=.ref C /\ o.dict=dx /\ o.data=.fields vs /\ vs.size=6
def TbO(T:Addr)(h:Heap):Prop:=∃ o ts,h.get? T=some o /\ o.data=.fields ts /\ 3<ts.size
abbrev Ai(a C:Addr)(dx:Option Addr):HO:=.ext (JG a C dx)
abbrev oTb(T:Addr):HO:=.ext (TbO T)
theorem Ki(x:JG a C dx h):gq P w H h a (Ai a C dx):=by
 refine⟨x,let ⟨o,_,e,_⟩:=x;⟨o,e⟩,fun h1 h2 p k=>?_⟩
 obtain⟨o,vs,e,r⟩:=p
 exact⟨o,vs,k o e,r⟩
theorem I8(x:TbO T h):gq P w H h T (oTb T):=by
 refine⟨x,let ⟨o,_,e,_⟩:=x;⟨o,e⟩,fun h1 h2 p k=>?_⟩
 obtain⟨o,vs,e,r⟩:=p
 exact⟨o,vs,k o e,r⟩
theorem Ga(h:H a=some o):upd H a o=H:=by
 funext b
 unfold upd;split
 . rename_i e;rw[e,h]
 . rfl
structure Fly(H:Hp)(h:Heap)(a C:Addr)(dx:Option Addr):Prop where
 exc:H a=some (Ai a C dx)
 tb:∃ o vs,h.get? a=some o /\ o.data=.fields vs /\ (vs[1]?=some Value.none \/ ∃ T,vs[1]?=some (.ref T) /\ H T=some (oTb T) /\ T≠a)
structure Df(H:Hp)(h:Heap)(a C:Addr)(dx:Option Addr):Prop where
 exc:H a=some (Ai a C dx)
 tb:∃ o vs T,h.get? a=some o /\ o.data=.fields vs /\ vs[1]?=some (.ref T) /\ H T=some (oTb T) /\ T≠a
theorem Df.fly(F:Df H h a C dx):Fly H h a C dx:=
 let ⟨o,vs,T,e1,e2,e3,e4,e5⟩:=F.tb
 ⟨F.exc,o,vs,e1,e2,.inr ⟨T,e3,e4,e5⟩⟩
section
variable{X:Cx}{pins:List (Addr×Obj)}{σ:St}{H:Hp}{s:Shared}{a C:Addr}{dx:Option Addr}
theorem Ff(I:Inv X pins σ H s)(k:Heap.SlotsOnly (frs X.stack) s.heap h₁):Un (frs X.stack) [] H H s.heap h₁ where
 keep:=fun b o e _ hb _=>(k.2.1 b hb).trans e
 slot:=fun b o e _ _ _=>k.2.2 b o e
 free:=fun _ _ _ n _=>n
 there:=fun b o e _=>let ⟨_,q⟩:=k.2.2 b o e;⟨_,q⟩
 tups:=fun _ _ q=>q
 frzs:=fun _ _ _ q=>q
 tbls:=fun _ ps q=>⟨#[],by rw[q];simp⟩
theorem DL(I:Inv X pins σ H s)(k:Heap.SlotsOnly (frs X.stack) s.heap h₁):HOk X.prog X.w H h₁:=fun b o e=>by
 have nf:∀ c u,H c=some u->c∉frs X.stack:=fun c u q z=>by rw[I.yi c z]at q;cases q
 refine(I.hok b o e).uD (fun c v hc q=>(k.2.1 c ?_).trans q) (fun _ q=>q) fun _ _ q=>q
 rcases hc with z|z
 . rw[z];exact nf b o e
 . exact nf c _ z
theorem GQ(I:Inv X pins σ H s)(e:H a=some (Ai a C dx)):
  Inv X pins σ H { s with heap:=s.heap.update a (Obj.mapFields (·.setIfInBounds i v)) }:=by
 obtain⟨⟨o,vs,ho,hc,hd,hf,hz⟩,_,_⟩:=I.hok a _ e;have hs:=Heap.get?_update_self (Obj.mapFields (·.setIfInBounds i v)) ho (Obj.isFreed_of_fields (Obj.data_mapFields hf _))
 have q:=I.write (x:=a) (e:=a) (o:=Ai a C dx) (t':=s.toks) (h':=s.heap.update a (Obj.mapFields (·.setIfInBounds i v))) (by rw[e];trivial) (.inl rfl)
  (fun b u hb q=>(Heap.get?_update_other _ _ (Ne.symm hb)).trans q) ⟨_,hs⟩ (Ki ⟨_,_,hs,by rw[Obj.cls_mapFields];exact hc,by obtain⟨c,d,dt,sl⟩:=o;cases dt<;>exact hd,Obj.data_mapFields hf _,by simpa using hz⟩)
 rw[Ga e]at q;exact q
theorem FE(I:Inv X pins σ H s)(e:H T=some (oTb T)):
  Inv X pins σ H { s with heap:=s.heap.update T (Obj.mapFields (·.setIfInBounds i v)) }:=by
 obtain⟨⟨o,vs,ho,hf,hz⟩,_,_⟩:=I.hok T _ e;have hs:=Heap.get?_update_self (Obj.mapFields (·.setIfInBounds i v)) ho (Obj.isFreed_of_fields (Obj.data_mapFields hf _))
 have q:=I.write (x:=T) (e:=T) (o:=oTb T) (t':=s.toks) (h':=s.heap.update T (Obj.mapFields (·.setIfInBounds i v))) (by rw[e];trivial) (.inl rfl)
  (fun b u hb q=>(Heap.get?_update_other _ _ (Ne.symm hb)).trans q) ⟨_,hs⟩ (I8 ⟨_,_,hs,Obj.data_mapFields hf _,by simpa using hz⟩)
 rw[Ga e]at q;exact q
theorem y8{Q:Unit->Shared->Prop}{E:Value->Shared->Prop}(I:Inv X pins σ H s)(hst:X.stack=X.env ::X.outer)(hf:X.env.frame=some L)(e:H a=some (Ai a C dx))
  (h:∀ s' H',Inv X pins σ H' s'->aK H H'->Df H' s'.heap a C dx->Q () s'):
  wpAny (model X.prog X.w) X.A (do let fr <- frameOf X.env;let pl <- entryPlaceOf L had;let b <- EntryCells.newEntry head fr .none (rawInt L) .none pl;setField (.ref a) 1 b) Q E s:=by
 have hfr:X.A.frames=some (X.env ::X.outer):=by rw[<- hst];exact I.ok.frames
 have hl:s.heap.FunFrames X.base (X.env ::X.outer):=by rw[<- hst];exact I.stack
 refine wpAny_bind (wpAny_frameOf_fun hfr hl hf fun h₁ k₁=>?_)
 have k₁':Heap.SlotsOnly (frs X.stack) s.heap h₁:=by rw[hst];exact k₁
 have I₁:=I.call (g':=s.gens) (t':=s.toks) (d':=s.drawn) (ch:=[]) (Ff I k₁') (DL I k₁') I.bare (fun b z=>absurd z (by simp));refine wpAny_bind (wpAny_entryPlaceOf fun pl hpl=>?_);unfold EntryCells.newEntry newFields;refine wpAny_bind (wpAny_newObj_type ?_ (hpl.sizeOk5 _ _ _ _ _))
 have big:3<([head,.ref L,.none,rawInt L,.none]++(if pl.isEmpty then List.replicate 6 Value.none else pl)).toArray.size:=by
  rw[List.size_toArray,List.length_append];show 3<5+_;omega
 have new:=Heap.get?_push_size h₁ (o:={ cls:=.type "traceback",dict:=none,data:=.fields ([head,.ref L,.none,rawInt L,.none]++(if pl.isEmpty then List.replicate 6 Value.none else pl)).toArray }) rfl
 have fr:H h₁.objs.size=none:=I₁.hok.fresh (Nat.le_refl _)
 have ne:h₁.objs.size≠a:=fun z=>by rw[z,e]at fr;cases fr
 have I₂:=I₁.laid (a:=h₁.objs.size) (o:=oTb h₁.objs.size) (t':=s.toks) (fun b u q=>Heap.get?_push_of_some _ q) (Nat.le_refl _) (I8 ⟨_,_,new,rfl,big⟩)
 have g:aK H (upd H h₁.objs.size (oTb h₁.objs.size)):=fun b u q=>by rw[bL (eO q fr)];exact q
 obtain⟨⟨o,vs,ho,hc,hd,hv,hz⟩,_,_⟩:=I₂.hok a _ (g _ _ e);refine wpAny_setField ho hv (by omega) ?_;refine h _ _ (GQ I₂ (g _ _ e)) g ⟨g _ _ e,_,_,h₁.objs.size,Heap.get?_update_self _ ho (Obj.isFreed_of_fields (Obj.data_mapFields hv _)),Obj.data_mapFields hv _,by simp[hz],bQ,ne⟩
theorem HP{Q:Unit->Shared->Prop}{E:Value->Shared->Prop}(I:Inv X pins σ H s)(hst:X.stack=X.env ::X.outer /\ X.env.frame=some X.env.locals)(F:Fly H s.heap a C dx)
  (h:∀ s' H',Inv X pins σ H' s'->aK H H'->Df H' s'.heap a C dx->Q () s'):wpAny (model X.prog X.w) X.A (noteFrame (.ref a) X.env) Q E s:=by
 obtain⟨o,vs,ho,hv,hw⟩:=F.tb;unfold noteFrame;simp only[hst.2]
 rcases hw with h1|⟨T,h1,hT,ne⟩
 . refine wpAny_bind (wpAny_field ho hv h1 ?_);rw[if_neg (by decide)];exact y8 I hst.1 hst.2 F.exc h
 . obtain⟨⟨oT,ts,hoT,hdT,hz⟩,_,_⟩:=I.hok T _ hT;refine wpAny_bind (wpAny_field ho hv h1 ?_);rw[if_pos (show(Value.ref T != Value.none)=true from by simp)]
   have h3:ts[3]?=some ts[3]:=by simp[hz]
   refine wpAny_bind (wpAny_field hoT hdT h3 ?_)
   by_cases c:(ts[3]==rawInt X.env.locals)=true
   . rw[if_pos c];exact wpAny_pure (h s H I (aK.refl H) ⟨F.exc,o,vs,T,ho,hv,h1,hT,ne⟩)
   . rw[if_neg c];refine wpAny_bind (wpAny_setField hoT hdT hz ?_);exact y8 (FE I hT) hst.1 hst.2 F.exc h
theorem Dd{Q:Unit->Shared->Prop}{E:Value->Shared->Prop}(I:Inv X pins σ H s)(F:Df H s.heap a C dx)
  (h:∀ s',Inv X pins σ H s'->Df H s'.heap a C dx->Q () s'):wpAny (model X.prog X.w) X.A (setFlight (.ref a) x) Q E s:=by
 obtain⟨o,vs,T,ho,hv,h1,hT,ne⟩:=F.tb;unfold setFlight;obtain⟨⟨oT,ts,hoT,hdT,hz⟩,_,_⟩:=I.hok T _ hT;refine wpAny_bind (wpAny_field ho hv h1 ?_);rw[if_pos (show(Value.ref T != Value.none)=true from by simp)];refine wpAny_setField hoT hdT hz ?_;exact h _ (FE I hT) ⟨F.exc,o,vs,T,(Heap.get?_update_other _ _ ne).trans ho,hv,h1,hT,ne⟩
end
def CXE(P:Program)(w:World):CXT:=fun outer H s E e s'=>∃ a C dx H',e=.ref a /\ s'.os=s.os /\ AllBare s'.gens /\ Un (frs outer) [] H H' s.heap s'.heap /\ HOk P w H' s'.heap /\ Fly H' s'.heap a C dx /\ E (.ref C) (some a) H'
abbrev XW:=Value->Option Addr->St->Hp->Prop
def Thr(X:Cx)(W:XW):Prop:=∀(pins:List (Addr×Obj)) (σ:St) (H:Hp) (s:Shared) (a C:Addr) (dx:Option Addr),Inv X pins σ H s->Fly H s.heap a C dx->W (.ref C) (some a) σ H->X.xe (.ref a) s
section
variable{CX:CXT}{P:Program}{w:World}{K:PySem.W.Frag}{mg:Str->Option Value}{base:Heap}{N:List Str}{qual:Str}{scope:Scope}{f:Addr}{cd:Value}{A:Around}{outer:List Env}{s₀:Shared}{H₀:Hp}{E:XK}
theorem aN:Thr (tT (CXE P w) P w K mg base N qual scope f cd A outer s₀ H₀ E) (fun C a _ H=>∀ H',aK H H'->E C a H'):=by
 intro pins σ H s a C dx I F hw;show wpAny _ _ (leaving _ _) _ _ s;unfold leaving;refine wpAny_bind (HP I ⟨rfl,rfl⟩ F fun s1 H1 I1 g1 F1=>?_)
 refine Dd I1 F1 fun s2 I2 F2=>?_
 exact⟨a,C,dx,H1,rfl,I2.os,I2.bare,I2.base,I2.hok,F2.fly,hw H1 g1⟩
theorem hU:PassesOwn (model P w) (tT (CXE P w) P w K mg base N qual scope f cd A outer s₀ H₀ E).A (tT (CXE P w) P w K mg base N qual scope f cd A outer s₀ H₀ E).env (tT (CXE P w) P w K mg base N qual scope f cd A outer s₀ H₀ E).xe:=by
 show PassesOwn (model P w) (A.deeper (envOfC qual scope s₀.heap.objs.size f cd)) (envOfC qual scope s₀.heap.objs.size f cd) (fun e s'=>wpAny (model P w) (A.deeper (envOfC qual scope s₀.heap.objs.size f cd)) (leaving (envOfC qual scope s₀.heap.objs.size f cd) e) (fun _ s''=>CXE P w outer H₀ s₀ E e s'') (fun e' s''=>CXE P w outer H₀ s₀ E e' s'') s')
 passes_own
end
section
variable{X:Cx}{k:Nat}{f:Addr}{fd:FuncData}{ps:List Str}{sp:Sp}{dvs:List V}{ds:List Value}{W:XW}{x m:Str}{p pos apos:Pos}{e o:Expr}{es:List Expr}{ta:TE}{t:TA}
def q8(sp:Sp)(dvs:List V)(W:XW)(t:TA):TE:=fun σ H Q=>t σ H fun vs H1=>sp (vs++dvs) H1 Q fun C a H'=>W C a σ H'
theorem uS{pins:List (Addr×Obj)}(F:cp X.prog X.w X.K X.mg X.base (CXE X.prog X.w) k f fd ps sp)(hr:ik k X.A)(hb:Binds X.K fd ps ds)(hd:Vals dvs ds)(hx:Thr X W)
  (I:Inv X pins σ H s) (r:Vals vs us) (h:sp (vs++dvs) H Q fun C a H'=>W C a σ H'):wpAny (model X.prog X.w) X.A (call (.ref f) us) (EP X pins σ Q) X.xe s:=by
 have r2:Vals (vs++dvs) (us++ds):=r.append hd
 have hl:(us++ds).length=ps.length:=by rw[<- r2.length];exact F.len _ _ _ _ h
 refine wpAny_call (codeAny_mono (F.run X.A X.stack s H ⟨us,[]⟩ (us++ds) (vs++dvs) Q _ hr I.L6 (hb s us I.kIn hl) r2 h) fun r s' hq=>?_)
 cases r with
 | error e=>
   obtain⟨a,C,dx,H',rfl,ho,bare,un,hok,fl,hw⟩:=hq;exact hx pins σ H' s' a C dx (I.Jf ho un hok bare fun b z=>absurd z (by simp)) fl hw
 | ok fl=>
   cases fl with
   |ret u=>exact I.after hq
   |next=>exact False.elim hq
   |brk=>exact False.elim hq
   |cont=>exact False.elim hq
theorem Fh(F:cp X.prog X.w X.K X.mg X.base (CXE X.prog X.w) k f fd ps sp)(hr:ik k X.A)(hg:Gl X x)(hm:X.mg x=some (.ref f))(hk:PySem.W.keepIn X.K (.ref f)=true)(hb:Binds X.K fd ps ds)(hd:Vals dvs ds)(hx:Thr X W)
  (ha:PA X (e ::es) t) (hdb:(x==("__debug__":Str))=false:=by decide) (he:starEach (e ::es) X.env=(false,eval e X.env) ::starEach es X.env:=by rfl) (hpl:(backTo pos (starEach es X.env)).any (·.1)=false:=by rfl):
  PE X (.Call (.Name x p) (e ::es) [] pos) (q8 sp dvs W t):=by
 intro pins s σ H Q I h;refine wpAny_Call_Name_kw (uO I hg hm ?_ hdb);refine PySem.W.callWith_K (h₀:=X.base) I.ok.mod.kin hk (thn (ha pos pins s σ H _ I h) fun us s1 ⟨vs,H1,I1,r,q⟩=>⟨I1.kIn,?_⟩) he hpl;exact uS F hr hb hd hx I1 r q
theorem CL(F:cp X.prog X.w X.K X.mg X.base (CXE X.prog X.w) k f fd ps sp)(hr:ik k X.A)(hg:Gl X x)(hm:X.mg x=some (.ref f))(hk:PySem.W.keepIn X.K (.ref f)=true)(hb:Binds X.K fd ps ds)(hd:Vals dvs ds)(hx:Thr X W)
  (hdb:(x==("__debug__":Str))=false:=by decide):PE X (.Call (.Name x p) [] [] pos) (q8 sp dvs W kL):=by
 intro pins s σ H Q I h;refine wpAny_Call_Name_kw (uO I hg hm ?_ hdb);exact PySem.W.callWith_K0 I.kIn hk (uS (us:=[]) F hr hb hd hx I .nil h)
end
abbrev hand(X:Cx)(a:Addr):Cx:={ X with A:=X.A.mark (some (.ref a)),calm:=false,xe:=fun _ _=>False }
abbrev blk(X:Cx)(scope:Scope)(cl:List (Str×Addr))(N:List Str)(C:Addr)(s₀:Shared)(H₀:Hp)(ex:List Addr):Cx:=
 { prog:=X.prog,w:=X.w,K:=X.K,mg:=X.mg,base:=X.base,A:=X.A,N:=N,s₀:=s₀,H₀:=H₀,env:=compEnvC scope cl C X.env,outer:=X.stack,stack:=X.stack,ex:=ex,fn:=fun _=>false,calm:=X.calm,pn:=[],xe:=fun _ _=>False }
theorem Bw:Thr X (fun _ _ _ _=>False):=fun _ _ _ _ _ _ _ _ _ h=>h.elim
structure lu(X:Cx)(scope:Scope)(cl:List (Str×Addr))(M:List Str)(ι:List Nat)(x:Str):Prop where
 clos:closureFor scope X.env=pure cl
 kind:scope.kind=.function
 nocell:(scope.names.all fun p=>p.2 != .cell)=true
 locs:(scope.names.all fun p=>p.2 != .local||scope.names.lookup p.1==some .local)=true
 var:scope.names.lookup x=some .local
 names:M.map some=ι.map fun i=>X.N[i]?
 cells:M.map (fun y=>scope.names.lookup y)=M.map fun _=>some .free
 kinds:M.map X.env.kindOf=M.map fun _=>some .cell
 same:M.map (fun y=>cl.lookup y)=M.map fun y=>X.env.cells.lookup y
 sub:cl.map (fun p=>X.env.cells.lookup p.1)=cl.map fun p=>some p.2
 all:(scope.names.all fun p=>!(p.2 == .free)||(cl.lookup p.1).isSome)=true
 nd:(M++[x]).Nodup
theorem xV{α β:Type}{f g:α->β}{l:List α}(h:l.map f=l.map g){a:α}(ha:a∈l):f a=g a:=by
 induction l with
 |nil=>cases ha
 | cons b r ih=>
   rw[List.map_cons,List.map_cons]at h
   injection h with h1 h2
   rcases List.mem_cons.mp ha with z|z
   . rw[z];exact h1
   . exact ih h2 z
theorem yR{scope:Scope}(h:scope.names.lookup y=some .free):(relabel scope env).names.lookup y=some .cell \/ (relabel scope env).names.lookup y=some .free:=by
 unfold relabel;dsimp only;generalize scope.names=l at h
 induction l with
 |nil=>cases h
 | cons p r ih=>
   obtain⟨n,k⟩:=p;rw[List.lookup_cons]at h;rw[List.map_cons]
   by_cases e:(y==n)=true
   . rw[e]at h
     have hk:k=.free:=Option.some.inj h
     subst hk;dsimp only;split
     . rw[List.lookup_cons,e];exact .inl rfl
     . rw[List.lookup_cons,e];exact .inr rfl
   . have e':(y==n)=false:=by simpa using e
     rw[e']at h;dsimp only;split
     . rw[List.lookup_cons,e'];exact ih h
     . rw[List.lookup_cons,e'];exact ih h
theorem yg{scope:Scope}(hc:(scope.names.all fun p=>p.2 != .cell)=true)(h:(relabel scope env).names.lookup y=some .cell \/ (relabel scope env).names.lookup y=some .free):∃ p∈scope.names,p.1=y /\ p.2=.free:=by
 unfold relabel at h
 dsimp only at h
 generalize scope.names=l at h hc
 induction l with
 |nil=>rcases h with h|h<;>cases h
 | cons p r ih=>
   obtain⟨n,k⟩:=p;rw[List.all_cons,Bool.and_eq_true]at hc;rw[List.map_cons]at h
   by_cases e:(y==n)=true
   . refine⟨(n,k),List.mem_cons_self,(beq_iff_eq.mp e).symm,?_⟩
     dsimp only at h ⊢
     split at h
     . rename_i c;simp only[Bool.and_eq_true,beq_iff_eq]at c;exact c.1.1
     . rw[List.lookup_cons,e]at h
       have hk:(k != NameKind.cell)=true:=hc.1
       rcases h with h|h
       . have:k=.cell:=Option.some.inj h
         subst this;exact absurd hk (by decide)
       . exact Option.some.inj h
   . have e':(y==n)=false:=by simpa using e
     have h':(List.map (fun x=>match x with|(n,k)=>if(k==NameKind.free&&env.scope.kind==ScopeKind.function&&env.kindOf n==some NameKind.cell)=true then(n,NameKind.cell)else(n,k)) r).lookup y=some .cell \/
       (List.map (fun x=>match x with|(n,k)=>if(k==NameKind.free&&env.scope.kind==ScopeKind.function&&env.kindOf n==some NameKind.cell)=true then(n,NameKind.cell)else(n,k)) r).lookup y=some .free:=by
      dsimp only at h
      split at h
      . rw[List.lookup_cons,e']at h;exact h
      . rw[List.lookup_cons,e']at h;exact h
     obtain⟨q,hq,z⟩:=ih h' hc.2
     exact⟨q,List.mem_cons_of_mem _ hq,z⟩
def pick(ι:List Nat)(σ:St):St:=ι.map fun i=>(σ[i]?).join
def uf(wi:TI)(ι:List Nat)(te:TE):TE:=fun σ H Q=>wi σ H fun J H1=>∀ D,H1 D=none->∃ W:Nat->Nat->List V->Hp->Prop,(∃ m,W 0 m [] (upd H1 D (.lst []))) /\ ∀ i m ys H,W i m ys H ->
 H D=some (.lst ys) /\ ((J.stop i H /\ Q (.ref D) H) \/ (J.go i H /\ ∀ x H',J.yld i H x H'->te (pick ι σ++[some x]) H' fun y H2=>H2 D=some (.lst ys) /\ ys.length<sizeLine /\ ∃ m',m'<m /\ W (i+1) m' (ys++[y]) (upd H2 D (.lst (ys++[y])))))
section
variable{X:Cx}{scope:Scope}{cl:List (Str×Addr)}{M:List Str}{ι:List Nat}{x:Str}
theorem lu.we(S:lu X scope cl M ι x)(h:cl.lookup y=some c):X.env.cells.lookup y=some c:=xV S.sub (PySem.mem_of_lookup h)
theorem yw{pins:List (Addr×Obj)}{s:Shared}{h₁:Heap}(S:lu X scope cl M ι x)(I:Inv X pins σ H s)(hex:∀ b∈ex,ni X pins H b /\ b<s.heap.objs.size)(hn:h₁.Ns s.heap.objs.size (fun _=>none))
  (hk:∀ b o,s.heap.get? b=some o->h₁.get? b=some o):Inv (blk X scope cl (M++[x]) s.heap.objs.size s H ex) [] (pick ι σ++[none]) H { s with heap:=h₁,toks:=t' }:=by
 have noM:∀ b:Addr,b∈ex->b≠s.heap.objs.size:=fun b hb=>Nat.ne_of_lt (hex b hb).2
 have fsx:∀ b∈ex,b∉frs X.stack:=fun b hb z=>by
  obtain⟨⟨_,f1,f2,_⟩,_⟩:=hex b hb
  rcases List.mem_cons.mp (I.Bu b z)with e|e
  . exact f1 e
  . exact f2 e
 have base0:∀ b o,X.base.get? b=some o->b∉ex:=fun b o e z=>by
  obtain⟨⟨_,_,_,f3,_⟩,_⟩:=hex b z
  rcases f3 with f|f
  . exact I.ok.noex b o e f
  . exact absurd (Nat.lt_of_lt_of_le (Heap.lt_size e) (Nat.le_trans I.ok.bsz f)) (Nat.lt_irrefl _)
 refine⟨⟨I.ok.mod,S.kind,I.ok.glob,I.ok.blt,Nat.le_refl _,fun y z c h1 h2=>I.ok.inj y z c (S.we h1) (S.we h2),fun y hy=>?_,fun y c z=>absurd z Bool.false_ne_true,I.ok.hd,I.ok.frames,.inl rfl,
  fun b hb=>⟨noM b hb,fun y c h z=>(hex b hb).1.2.2.2.2.1 y c (S.we h) z⟩,I.bs,Nat.le_trans I.ok.bsz I.sz,base0,fsx,I.stack,I.yi⟩,
  rfl,I.bare,Un.kept hk,⟨_,hn,fun i y v e1 e2 e3=>?_⟩,fun y c h=>?_,I.fresh,fun y c h=>?_,fun p hp=>absurd (show p∈([]:List (Addr×Obj)) from hp) (by simp),I.hok.kept hk,?_⟩
 . obtain⟨p,hp,rfl,hpf⟩:=yg S.nocell hy;have q:=List.all_eq_true.mp S.all p hp;rw[hpf]at q
   have q':(cl.lookup p.1).isSome=true:=by
    cases e:(cl.lookup p.1).isSome with
    |true=>rfl
    |false=>rw[e]at q;exact absurd q (by decide)
   exact Option.isSome_iff_exists.mp q'
 . have hiM:i < M.length:=by
    by_cases hlt:i<M.length
    . exact hlt
    . exfalso
      have hl:(pick ι σ).length=M.length:=by
       have q:=congrArg List.length S.names;rw[List.length_map,List.length_map]at q;unfold pick;rw[List.length_map,q]
      rw[List.getElem?_append_right (by omega),hl]at e2
      have:i - M.length=0 \/ 1<=i - M.length:=by omega
      rcases this with z|z
      . rw[z]at e2;cases e2
      . rw[List.getElem?_eq_none (by simpa using z)]at e2;cases e2
   have hl:ι.length=M.length:=by
    have q:=congrArg List.length S.names;rw[List.length_map,List.length_map]at q;exact q.symm
   rw[List.getElem?_append_left hiM]at e1
   have hyM:y∈M:=List.mem_of_getElem? e1
   have e2':((σ[ι[i]]?).join)=some v:=by
    rw[List.getElem?_append_left (by unfold pick;rw[List.length_map];omega)]at e2;unfold pick at e2;rw[List.getElem?_map,List.getElem?_eq_getElem (by omega)]at e2;exact Option.some.inj e2
   have e4:σ[ι[i]]?=some (some v):=by
    cases q:σ[ι[i]]? with
    |none=>rw[q]at e2';cases e2'
    |some w=>rw[q]at e2';exact congrArg some e2'
   have e5:X.N[ι[i]]?=some y:=by
    have q:=congrArg (fun l=>l[i]?) S.names;rw[List.getElem?_map,List.getElem?_map,e1,List.getElem?_eq_getElem (by omega)]at q
    exact(Option.some.inj q).symm
   have kc:X.env.kindOf y=some .cell:=xV S.kinds hyM
   obtain⟨m,hm,hl⟩:=I.loc;obtain⟨u,r,q⟩:=hl _ y v e5 e4 (.inr (.inl kc))
   refine⟨u,r,.inr ⟨?_,?_⟩⟩
   . exact yR (xV S.cells hyM)
   . rcases q with⟨k,_⟩|⟨_,c,e,o,ho,hd⟩
     . rw[kc]at k;cases k
     . exact⟨c,(xV S.same hyM).trans e,o,hk _ _ ho,hd⟩
 . obtain⟨v,o,ho,hd⟩:=I.cell y c (S.we h)
   exact⟨v,o,hk _ _ ho,hd⟩
 . exact I.freeC y c (S.we h)
 . have q:=congrArg List.length S.names;rw[List.length_map,List.length_map]at q
   show(pick ι σ++[none]).length=(M++[x]).length
   unfold pick;rw[List.length_append,List.length_append,List.length_map,q];rfl
theorem u1{pins:List (Addr×Obj)}{s s':Shared}(I:Inv X pins σ H s)(hC:C=s.heap.objs.size)(hex:∀ b∈ex,ni X pins H b)(J:Inv (blk X scope cl N C s H ex) [] σ' H' s')
  (hs:Heap.SameBut C s'.heap h'):Inv X pins σ H' { s' with heap:=h' }:=by
 subst hC
 have K:Inv X pins σ H' s':=I.Jf (ch:=ex) J.os J.base J.hok J.bare fun b hb=>by
  obtain⟨_,f1,_,f3,f4,f5⟩:=hex b hb
  exact⟨f3,f1,f4,f5⟩
 refine K.turned (t':=s'.toks) (it:=s.heap.objs.size) (fun b o hb e=>(hs.2 b hb).trans e) J.free (Nat.ne_of_gt I.lt) (.inr I.sz) (fun y c e z=>?_) (fun p hp z=>?_)
 . obtain⟨v,q⟩:=I.cell y c e;exact absurd (z ▸ q.lt) (Nat.lt_irrefl _)
 . exact absurd (z ▸ Heap.lt_size (I.pin p hp).1) (Nat.lt_irrefl _)
theorem xg(elt target iter:Expr)(scope:Scope)(pos:Pos)(it acc:Value)(env:Env):
  compTurn (.ListComp elt [⟨target,iter,[],0⟩] scope pos) 0 it acc env=(do
   standAt iter.pos
   match <- pyNext it with
   |none=>pure (.done .next)
   | some v=>do
     letOwnedTupleGo target it v
     assign target env v
     (do let x <- eval elt env;let _ <- call (.builtin "list.append") [acc,x];pure ())
     again (.compLoop (.ListComp elt [⟨target,iter,[],0⟩] scope pos) 0 it acc env)):=by rfl
theorem HU(S:lu X scope cl M ι x)(hc:X.calm=true)(hi:PI X (.Name x px) iter wi)(he:∀ C s₀ H₀ ex,PE (blk X scope cl (M++[x]) C s₀ H₀ ex) elt te)
  (hs:∀ v,foldedSetIterable iter X.env v=pure v:=by intro _;rfl):PE X (.ListComp elt [⟨.Name x px,iter,[],0⟩] scope pos) (uf wi ι te):=by
 intro pins s σ H Q I h;rw[eval_ListComp];refine wpAny_comprehension_free (use:=none) rfl hs S.clos S.kind (fun y hy hl=>?_) (wpAny_mono (hi pins s σ H _ I h) (fun v s1 h1=>wpAny_mono h1 (fun itv s2 h2=>?_) fun _ _ z=>z) fun _ _ z=>z)
 . have q:=List.all_eq_true.mp S.locs y hy;rw[hl]at q
   simpa using q
 obtain⟨it,fp,tn,J,H2,rfl,I2,T,st2,f2,hW⟩:=h2;have I3:=I2.Ei (ys:=[]) (its:=[]) (t':=s2.toks) .nil (Nat.zero_le _);obtain⟨W,⟨m0,w0⟩,turn⟩:=hW s2.heap.objs.size I2.fresh
 have fpo:∀ b∈fp,b<s2.heap.objs.size:=fun b hb=>let ⟨_,e,_⟩:=T.obj _ _ st2 b hb;Heap.lt_size e
 have f3:∀ b∈fp,ni X pins (upd H2 s2.heap.objs.size (.lst [])) b:=fun b hb=>by
  obtain⟨q0,q⟩:=f2 b hb
  exact⟨by rw[bL (Nat.ne_of_lt (fpo b hb))];exact q0,q⟩
 show wpAny _ _ (newObj (.type "list") _ none) _ _ s2;refine wpAny_newObj_type (wpAny_newFunctionEnv (fun y hy=>?_) (by intro y hy;simp at hy) (fun h₁ hn₁ sb₁=>?_) S.kind)
 . have q:=List.all_eq_true.mp S.nocell y hy
   simpa using q
 have hsz:(s2.heap.push { cls:=.type "list",dict:=none,data:=.seq ([]:List Value).toArray }).objs.size=s2.heap.objs.size+1:=Heap.size_push ..
 have hk₁:∀ b o,(s2.heap.push { cls:=.type "list",dict:=none,data:=.seq ([]:List Value).toArray }).get? b=some o->h₁.get? b=some o:=fun b o e=>
  (sb₁.2 b (Nat.ne_of_lt (Heap.lt_size e))).trans (Heap.get?_push_of_some _ e)
 have J0:=yw (t':=s2.toks+([]:List (Str×Value)).length) S I3 (ex:=fp) (fun b hb=>⟨f3 b hb,Nat.lt_of_lt_of_le (fpo b hb) (by rw[hsz];exact Nat.le_succ _)⟩) hn₁ hk₁
 have old:∀ b∈fp,∀ o,s2.heap.get? b=some o->h₁.get? b=some o:=fun b _ o e=>hk₁ b o (Heap.get?_push_of_some _ e)
 have st₁:tn 0 h₁:=T.keep _ _ _ st2 old
 have loop:codeAny (model X.prog X.w) X.A (.compLoop (.ListComp elt [⟨.Name x px,iter,[],0⟩] scope pos) 0 (.ref it) (.ref s2.heap.objs.size) (compEnvC scope cl (s2.heap.objs.size+1) X.env))
   (compPost (model X.prog X.w) X.A X.xe none (EP X pins σ Q) (.ref s2.heap.objs.size) (s2.heap.objs.size+1)) { s2 with heap:=h₁,toks:=s2.toks+([]:List (Str×Value)).length }:=by
  rw[hsz]at J0
  refine codeAny_loop rfl (fun n s'=>∃ i H' ys v,Inv (blk X scope cl (M++[x]) (s2.heap.objs.size+1) { s2 with heap:=s2.heap.push { cls:=.type "list",data:=.seq ([]:List Value).toArray },toks:=s2.toks } (upd H2 s2.heap.objs.size (.lst [])) fp) [] (pick ι σ++[v]) H' s' /\ tn i s'.heap /\ (∀ b∈fp,H' b=none) /\ W i n ys H')
   (fun n s' hI=>?_) m0 ⟨0,_,[],none,J0,st₁,fun b hb=>(f3 b hb).1,w0⟩
  obtain⟨i,H',ys,v,J',st',fr',w'⟩:=hI;obtain⟨hD,alt⟩:=turn i n ys H' w'
  have fpY:∀{G:Hp},(∀ b∈fp,G b=none)->∀ b∈fp,ni (blk X scope cl (M++[x]) (s2.heap.objs.size+1) { s2 with heap:=s2.heap.push { cls:=.type "list",data:=.seq ([]:List Value).toArray },toks:=s2.toks } (upd H2 s2.heap.objs.size (.lst [])) fp) [] G b:=fun hG b hb=>
   ⟨hG b hb,(J'.ok.exf b hb).1,J'.ok.exfs b hb,.inl hb,(J'.ok.exf b hb).2,fun p hp=>absurd (show p∈([]:List (Addr×Obj)) from hp) (by simp)⟩
  show wpAny _ _ ((compTurn _ 0 (.ref it) (.ref s2.heap.objs.size) (compEnvC scope cl (s2.heap.objs.size+1) X.env)).onRaise _) _ _ s';refine wpAny_noted (wpAny_noRaise ?_);rw[xg];refine wpAny_bind (wpAny_standAt (wpAny_bind ?_))
  rcases alt with⟨stop,qn⟩|⟨go,step⟩
  . refine thn (T.done (blk X scope cl (M++[x]) (s2.heap.objs.size+1) _ _ fp) rfl rfl rfl hc i [] s' _ H' _ J' (fpY fr') st' stop) fun r s4 ⟨hr,J4⟩=>?_
    subst hr;refine wpAny_pure ?_;obtain⟨m,hm,_⟩:=id J4.loc
    refine⟨m,hm,fun h' sb=>⟨.ref s2.heap.objs.size,H',u1 I3 hsz.symm f3 J4 sb,rfl,qn⟩⟩
  . refine thn (T.item (blk X scope cl (M++[x]) (s2.heap.objs.size+1) _ _ fp) rfl rfl rfl hc i [] s' _ H' _ J' (fpY fr') st' go) fun r s4 ⟨u,hr,h4⟩=>?_
    subst hr;refine wpAny_bind (thn h4 fun _ s5 ⟨z,H5,J5,r5,y5,st5,fr5⟩=>?_)
    have J5':=J5.pinned (fpY fr5) (T.obj _ _ st5)
    have hxN:(M++[x])[M.length]?=some x:=by simp
    refine wpAny_bind ?_;refine wpAny_assign_Name ?_;refine j7 (X:=blk X scope cl (M++[x]) (s2.heap.objs.size+1) _ _ fp) (i:=M.length) (v:=z) J5' S.nd hxN (.inl (lookup_relabel_local S.var)) r5 (fun s6 J6=>?_) (.inr (lookup_relabel_local S.var))
    have hlp:(pick ι σ).length=M.length:=by
     have q:=congrArg List.length S.names;rw[List.length_map,List.length_map]at q;unfold pick;rw[List.length_map,q]
    have hset:(pick ι σ++[v]).set M.length (some z)=pick ι σ++[some z]:=by
     rw[<- hlp,List.set_append_right _ _ (Nat.le_refl _),Nat.sub_self];rfl
    rw[hset]at J6;refine wpAny_bind (wpAny_bind (thn (he _ _ _ _ _ s6 _ H5 _ J6 (step z H5 y5)) fun yv s7 ⟨y,H7,J7,r7,hD7,hz7,m',hm',w7⟩=>?_));refine wpAny_bind (thn (ck (X:=blk X scope cl (M++[x]) (s2.heap.objs.size+1) _ _ fp) _ s7 _ H7 (.ref s2.heap.objs.size) [y] (.ref s2.heap.objs.size) [yv] (fun _ G=>G=upd H7 s2.heap.objs.size (.lst (ys++[y]))) J7 rfl (.cons r7 .nil) ⟨_,_,y,rfl,rfl,hD7,hz7,rfl⟩) fun _ s8 ⟨_,H8,J8,_,e8⟩=>?_);subst e8;refine wpAny_pure (wpAny_pure ⟨rfl,m',hm',i+1,_,_,some z,J8.gF,?_,fun b hb=>?_,w7⟩)
    . exact T.keep _ _ _ st5 fun b hb o e=>(J8.pin (b,o) (List.mem_append_right _ (List.mem_append_right _ (cQ hb e)))).1
    . obtain⟨o,e,d⟩:=T.obj _ _ st5 b hb
      exact(J8.pin (b,o) (List.mem_append_right _ (List.mem_append_right _ (cQ hb e)))).2.1
 rw[hsz]at *;exact codeAny_compStart_list loop (T.self X.A 0 _ _ _ st₁ loop)
end
section
variable{X:Cx}
def IsV(K:PySem.W.Frag)(T:String)(x:V)(H:Hp)(b:Bool):Prop:=match x with
 |.int _=>(T = "int" /\ b=true) \/ (T = "bool" /\ b=false) \/ (T = "list" /\ b=false) \/ (T = "tuple" /\ b=false) \/ (T = "str" /\ b=false)
 |.bl _=>(T = "int" /\ b=true) \/ (T = "bool" /\ b=true) \/ (T = "list" /\ b=false) \/ (T = "tuple" /\ b=false) \/ (T = "str" /\ b=false)
 |.non=>(T = "int" /\ b=false) \/ (T = "bool" /\ b=false) \/ (T = "list" /\ b=false) \/ (T = "tuple" /\ b=false) \/ (T = "str" /\ b=false)
 |.str _=>(T = "int" /\ b=false) \/ (T = "bool" /\ b=false) \/ (T = "list" /\ b=false) \/ (T = "tuple" /\ b=false) \/ (T = "str" /\ b=true)
 | .ref p=>((∃ xs,SqL K H p xs) /\ ((T = "int" /\ b = false) \/ (T = "bool" /\ b = false) \/ (T = "list" /\ b = true) \/ (T = "tuple" /\ b = false) \/ (T = "str" /\ b = false))) \/
    ((∃ xs,SqT K H p xs) /\ ((T = "int" /\ b=false) \/ (T = "bool" /\ b=false) \/ (T = "list" /\ b=false) \/ (T = "tuple" /\ b=true) \/ (T = "str" /\ b=false)))
 |_=>False
theorem pD:oI X (.builtin "isinstance") (fun xs H Q=>∃ x T b,xs=[x,.ty T] /\ IsV X.K T x H b /\ Q (.bl b) H):=by
 intro pins s σ H vs us Q I rv h;obtain⟨x,T,b,rfl,hv,q⟩:=h;obtain⟨u,v,rfl,ru,rT⟩:=rv.two;cases rT
 cases x with
 | int i=>
   obtain⟨t,rfl⟩:=ru
   rcases hv with⟨rfl,rfl⟩|⟨rfl,rfl⟩|⟨rfl,rfl⟩|⟨rfl,rfl⟩|⟨rfl,rfl⟩
   . exact IsiPair.int_int ⟨.bl _,H,I,rfl,q⟩
   . exact IsiPair.int_bool ⟨.bl _,H,I.tok _,rfl,q⟩
   . exact IsiPair.int_list ⟨.bl _,H,I.tok _,rfl,q⟩
   . exact IsiPair.int_tuple ⟨.bl _,H,I.tok _,rfl,q⟩
   . exact IsiPair.int_str ⟨.bl _,H,I.tok _,rfl,q⟩
 | bl i=>
   cases ru
   rcases hv with⟨rfl,rfl⟩|⟨rfl,rfl⟩|⟨rfl,rfl⟩|⟨rfl,rfl⟩|⟨rfl,rfl⟩
   . exact IsiPair.bool_int ⟨.bl _,H,I,rfl,q⟩
   . exact IsiPair.bool_bool ⟨.bl _,H,I,rfl,q⟩
   . exact IsiPair.bool_list ⟨.bl _,H,I.tok _,rfl,q⟩
   . exact IsiPair.bool_tuple ⟨.bl _,H,I.tok _,rfl,q⟩
   . exact IsiPair.bool_str ⟨.bl _,H,I.tok _,rfl,q⟩
 | non=>
   cases ru
   rcases hv with⟨rfl,rfl⟩|⟨rfl,rfl⟩|⟨rfl,rfl⟩|⟨rfl,rfl⟩|⟨rfl,rfl⟩
   . exact IsiPair.NoneType_int ⟨.bl _,H,I.tok _,rfl,q⟩
   . exact IsiPair.NoneType_bool ⟨.bl _,H,I.tok _,rfl,q⟩
   . exact IsiPair.NoneType_list ⟨.bl _,H,I.tok _,rfl,q⟩
   . exact IsiPair.NoneType_tuple ⟨.bl _,H,I.tok _,rfl,q⟩
   . exact IsiPair.NoneType_str ⟨.bl _,H,I.tok _,rfl,q⟩
 | str i=>
   obtain⟨t,rfl⟩:=ru
   rcases hv with⟨rfl,rfl⟩|⟨rfl,rfl⟩|⟨rfl,rfl⟩|⟨rfl,rfl⟩|⟨rfl,rfl⟩
   . exact IsiPair.str_int ⟨.bl _,H,I.tok _,rfl,q⟩
   . exact IsiPair.str_bool ⟨.bl _,H,I.tok _,rfl,q⟩
   . exact IsiPair.str_list ⟨.bl _,H,I.tok _,rfl,q⟩
   . exact IsiPair.str_tuple ⟨.bl _,H,I.tok _,rfl,q⟩
   . exact IsiPair.str_str ⟨.bl _,H,I,rfl,q⟩
 | ref p=>
   cases ru
   rcases hv with⟨⟨xs,hS⟩,hv⟩|⟨⟨xs,hS⟩,hv⟩
   . obtain⟨its,r,pl,hz⟩:=I.list hS;obtain⟨o,e,c,_⟩:=pl.isList
     rcases hv with⟨rfl,rfl⟩|⟨rfl,rfl⟩|⟨rfl,rfl⟩|⟨rfl,rfl⟩|⟨rfl,rfl⟩
     . exact IsiPair.list_int e c ⟨.bl _,H,I.tok _,rfl,q⟩
     . exact IsiPair.list_bool e c ⟨.bl _,H,I.tok _,rfl,q⟩
     . exact IsiPair.list_list e c ⟨.bl _,H,I,rfl,q⟩
     . exact IsiPair.list_tuple e c ⟨.bl _,H,I.tok _,rfl,q⟩
     . exact IsiPair.list_str e c ⟨.bl _,H,I.tok _,rfl,q⟩
   . obtain⟨its,r,pl,hz⟩:=I.tuple hS;obtain⟨o,e,c,_⟩:=pl
     rcases hv with⟨rfl,rfl⟩|⟨rfl,rfl⟩|⟨rfl,rfl⟩|⟨rfl,rfl⟩|⟨rfl,rfl⟩
     . exact IsiPair.tuple_int e c ⟨.bl _,H,I.tok _,rfl,q⟩
     . exact IsiPair.tuple_bool e c ⟨.bl _,H,I.tok _,rfl,q⟩
     . exact IsiPair.tuple_list e c ⟨.bl _,H,I.tok _,rfl,q⟩
     . exact IsiPair.tuple_tuple e c ⟨.bl _,H,I,rfl,q⟩
     . exact IsiPair.tuple_str e c ⟨.bl _,H,I.tok _,rfl,q⟩
 |_=>exact hv.elim
theorem boot_bool:bootBuiltins "bool" = some (.type "bool"):=by decide +kernel
theorem boot_isinstance:bootBuiltins "isinstance" = some (.builtin "isinstance"):=by decide +kernel
theorem boot_all:bootBuiltins "all" = some (.builtin "all"):=by decide +kernel
theorem boot_tuple:bootBuiltins "tuple" = some (.type "tuple"):=by decide +kernel
theorem boot_list:bootBuiltins "list" = some (.type "list"):=by decide +kernel
theorem boot_int:bootBuiltins "int" = some (.type "int"):=by decide +kernel
theorem boot_str:bootBuiltins "str" = some (.type "str"):=by decide +kernel
theorem boot_len:bootBuiltins "len" = some (.builtin "len"):=by decide +kernel
theorem rS:∀{ns:List Int} {its:List Value},Vals (ns.map V.int) its->IntsAre its ns
 |[],_,.nil=>.nil
 |n ::_,_,.cons ⟨t,e⟩ r=>by subst e;exact .cons n t (rS r)
def GX(K:PySem.W.Frag)(A:Around)(neg:Bool):R2:=fun x y H Q=>∃(p q:Addr) (ns ms:List Int),x=.ref p /\ y=.ref q /\ SqL K H p (ns.map V.int) /\ SqL K H q (ms.map V.int) /\ A.units+64<cLine /\ Q (.bl (if neg then !decide (ns=ms)else decide (ns=ms))) H
theorem xN:OpR X (compareOp .Eq) (GX X.K X.A false):=by
 intro pins s σ H x y v u Q I rx ry h;obtain⟨p,q,ns,ms,rfl,rfl,h1,h2,hu,hq⟩:=h
 cases rx;cases ry
 obtain⟨its,r,pl,hz⟩:=I.list h1;obtain⟨its',r',pl',hz'⟩:=I.list h2;exact PySem.W.eq_intsK pl.isList (rS r) pl'.isList (rS r') hu ⟨.bl _,H,I,rfl,hq⟩
theorem EY:OpR X (compareOp .NotEq) (GX X.K X.A true):=by
 intro pins s σ H x y v u Q I rx ry h;obtain⟨p,q,ns,ms,rfl,rfl,h1,h2,hu,hq⟩:=h
 cases rx;cases ry
 obtain⟨its,r,pl,hz⟩:=I.list h1;obtain⟨its',r',pl',hz'⟩:=I.list h2;exact PySem.W.ne_intsK pl.isList (rS r) pl'.isList (rS r') hu ⟨.bl _,H,I,rfl,hq⟩
end
section
variable{P:Program}{w:World}{K:PySem.W.Frag}{mg:Str->Option Value}{base:Heap}
theorem okX{x qual:Str}{st:Stmt}{f:Addr}{fd:FuncData}{N ps:List Str}{k:Nat}{sp:Sp}(F:Fun K x qual st f fd)(S:aW N ps (aC st))(len:∀ vs H Q E,sp vs H Q E->vs.length=ps.length)
  (hbody:∀(cdv:Value) (A:Around) (outer:List Env) (s:Shared) (H:Hp) (vs:List V) (Q:VK) (E:XK),ik k (A.deeper (envOfC qual (aC st) s.heap.objs.size f cdv))->sp vs H Q E ->
    ∃ t,PSs (tT (CXE P w) P w K mg base N qual (aC st) f cdv A outer s H E) (dF st) t /\ t { nx:=fun _ H'=>Q .non H',rt:=Q } (start N vs) H):cp P w K mg base (CXE P w) (k+1) f fd ps sp:=by
 obtain⟨oc,od,kV,doc,pm,an,cdv,ct,osl,rfl,lk,hcd⟩:=F.ex
 exact Ma lk hcd S len fun A outer s H vs Q E hr hsp=>hbody cdv A outer s H vs Q E hr hsp
end
theorem SqL.new{K:PySem.W.Frag}{H:Hp}{p:Addr}{xs:List V}(h:H p=some (.lst xs)):SqL K H p xs:=.inl (.inl h)
theorem SqT.new{K:PySem.W.Frag}{H:Hp}{p:Addr}{xs:List V}(h:H p=some (.tup xs)):SqT K H p xs:=.inl (.inl h)
theorem Hz{H:Hp}{p q:Addr}{o:HO}(h:H q=some o)(n:H p=none):q≠p:=fun z=>by rw[z,n]at h;cases h
theorem _root_.L2.aK.upd{H H':Hp}{p:Addr}{o:HO}(e:aK H H')(n:H p=none):aK H (upd H' p o):=fun b u h=>by
 rw[bL (Hz h n)];exact e b u h
theorem _root_.L2.aK.new{H:Hp}{p:Addr}{o:HO}(n:H p=none):aK H (L2.upd H p o):=(aK.refl H).upd n
abbrev Goes(H:Hp)(E:XK)(C:Addr)(dx:Option Addr):Prop:=∀ H' a,aK H H'->H' a=some (Ai a C dx)->E (.ref C) (some a) H'
section
variable{X:Cx}
def IG(K:PySem.W.Frag):R2:=fun x y H Q=>∃ l b xs zs,x=.ref l /\ y=.ref b /\ SqL K H l xs /\ SqL K H b zs /\ xs.length+zs.length<=sizeLine /\ ∀ p,H p=none->Q (.ref p) (upd H p (.lst (xs++zs)))
theorem eD:OpR X (binaryOp .Add) (IG X.K):=by
 intro pins s σ H x y v u Q I rx ry h;obtain⟨l,b,xs,zs,rfl,rfl,hH,hB,hz,q⟩:=h;cases rx;cases ry;obtain⟨its,r,pl,_⟩:=I.list hH;obtain⟨its2,r2,pl2,_⟩:=I.list hB;obtain⟨⟨cls,dd,data,sl⟩,ho,hc,n,hd⟩:=pl.isList;obtain⟨⟨cls2,dd2,data2,sl2⟩,ho2,hc2,n2,hd2⟩:=pl2.isList;simp only at hc hd hc2 hd2;subst hc hd hc2 hd2
 have hsz:its.toArray.size+its2.toArray.size<=sizeLine:=by rw[List.size_toArray,List.size_toArray,<- r.length,<- r2.length];exact hz
 refine concat_meets ⟨_,ho,rfl⟩ ⟨_,ho2,rfl⟩ noFill_list_add seq_list_add PySem.F.slot_list_add PySem.F.entry_list_add (PySem.F.args_list_add_2 _ _) (list_addW l b its.toArray its2.toArray n n2 dd dd2 sl sl2 hsz) ⟨ho,ho2,?_⟩
 have ea:its.toArray++its2.toArray=(its++its2).toArray:=by simp
 rw[ea]
 exact⟨.ref _,_,I.Ei (t':=s.toks) (r.append r2) (by rw[List.length_append];exact hz),rfl,q _ I.fresh⟩
theorem wN:oI X (.builtin "all") (fun xs H Q=>∃(p:Addr) (bs:List Bool),xs=[.ref p] /\ SqL X.K H p (bs.map V.bl) /\ X.A.handled=none /\ Q (.bl (bs.all id)) H):=by
 intro pins s σ H vs us Q I rv h;obtain⟨p,bs,rfl,hp,hh,q⟩:=h;obtain⟨u,rfl,ru⟩:=rv.one;cases ru;obtain⟨its,r,pl,_⟩:=I.list hp;have hl:=r.length
 have isl:s.heap.IsList p its.toArray:=pl.isList
 obtain⟨o,e,_⟩:=id isl;refine call_all_walk (wpAny_pyIter_list isl ?_)
 have ne:p≠s.heap.objs.size:=Nat.ne_of_lt (Heap.lt_size e)
 have tv:∀(i:Nat) (v:Value),its.toArray[i]?=some v->∃ b,bs[i]?=some b /\ v=Value.bool b:=fun i v hv=>by
  have hv':its[i]?=some v:=by simpa using hv
  have hi:i<its.length:=(List.getElem?_eq_some_iff.mp hv').1
  rw[<- hl,List.length_map]at hi
  have hx:(bs.map V.bl)[i]?=some (V.bl bs[i]):=by simp[hi]
  obtain⟨u,hu,ru⟩:=r.get hx;rw[hv']at hu;cases hu
  exact⟨bs[i],by simp[hi],ru⟩
 refine⟨s.heap.objs.size,_,_,_,_,_,(fun i=>(bs[i]?).getD false),rfl,Walks.list (A:=X.A.in1) hh s.heap.objs.size p ne its.toArray,⟨⟨_,Heap.get?_push_size _ rfl,rfl,rfl⟩,isl.at fun o e=>Heap.get?_push_of_some _ e⟩,fun i v s' Q' E' hP hQ=>?_,fun h' tk hk=>?_⟩
 . obtain⟨b,hb,rfl⟩:=tv i v hP
   have hQ':Q' ((bs[i]?).getD false) s':=hQ
   rw[hb]at hQ';exact wpAny_truthy_bool hQ'
 . have en:its.toArray.size=bs.length:=by rw[List.size_toArray,<- hl,List.length_map]
   have eb:(List.range its.toArray.size).all (fun i=>(bs[i]?).getD false)=bs.all id:=by
    rw[en];rw[Bool.eq_iff_iff,List.all_eq_true,List.all_eq_true];constructor
    . intro hA b hb;obtain⟨i,hi,rfl⟩:=List.mem_iff_getElem.mp hb;have:=hA i (by simpa using hi)
      simpa [hi]using this
    . intro hA i hi
      have hi':i<bs.length:=by simpa using hi
      have:=hA bs[i] (List.getElem_mem hi')
      simpa [hi']using this
   rw[eb]
   refine⟨.bl _,H,I.kept (h':=h') (t':=tk) fun b o e'=>hk b o ?_ (Heap.get?_push_of_some _ e'),rfl,q⟩
   have lt:=Heap.lt_size e';intro z
   have z':b=s.heap.objs.size:=by simpa using z
   exact absurd (z' ▸ lt) (Nat.lt_irrefl _)
end
def isStar:Expr->Bool
 |.Starred ..=>true
 |_=>false
theorem CV{e:Expr}{es:List Expr}{env:Env}(h:isStar e=false):starEach (e ::es) env=(false,eval e env) ::starEach es env:=by
 cases e<;>first|rfl|cases h
theorem D6{X:Cx}{e:Expr}{es:List Expr}{te:TE}{t:TA}(ha:PE X e te)(hr:PA X es t)(hs:isStar e=false:=by rfl):PA X (e ::es) (iY te t):=Hx ha hr (CV hs)
end L2.E
namespace L2.P
open PySem
def ixP(n:Nat)(i:Int):Option Nat:=if 0<=i then(if i<n then some i.toNat else none)else if -(n:Int)<=i then some (i+n).toNat else none
def atP{α:Type}(xs:List α)(i:Int):Option α:=(ixP xs.length i).bind fun j=>xs[j]?
def wB(n d:Nat):Option Int->Nat
 |none=>d
 |some v=>if v<0 then(v+(n:Int)).toNat else min v.toNat n
inductive PV where
 |non|bl (b:Bool)|int (i:Int)|str (s:Str)|lst (xs:List PV)|tup (xs:List PV)
inductive OV where
 | sh (x:PV)|ol (ts:List OV)|ob (c:String) (ks:List Str) (ts:List OV)
   |di (kvs:List (Int×PV))|dt (kvs:List (List Int×PV))
inductive Sl where
 | sh (x:PV)|ow (xs:List PV)|ex (c:String) (fs:List (Str×PV))
   |tr (io:Bool) (t:OV)|bo (t:OV)
abbrev ag:=List (Option Sl)
inductive RV where
 |sh (x:PV)|fr (xs:List PV)|al (xs:List PV)
def RV.pv:RV->PV
 |.sh x=>x
 |.fr xs=>.lst xs
 |.al xs=>.lst xs
abbrev XF:=List (Str×PV)
inductive OE where
 |ok (r:RV)|exc (c:String) (fs:XF)|bad
inductive OT where
 |ok (b:Bool)|exc (c:String) (fs:XF)|bad
inductive OA where
 |ok (xs:List PV)|exc (c:String) (fs:XF)|bad
inductive OS where
 |nx (ρ:ag)|rt (ρ:ag) (r:RV)|bk (ρ:ag)|ct (ρ:ag)|exc (ρ:ag) (c:String) (fs:XF)|bad
def OE.bind:OE->(RV->OE)->OE
 |.ok r,f=>f r
 |.exc c fs,_=>.exc c fs
 |.bad,_=>.bad
def OE.gc:OE->(RV->OT)->OT
 |.ok r,f=>f r
 |.exc c fs,_=>.exc c fs
 |.bad,_=>.bad
def OE.fI:OE->(RV->OA)->OA
 |.ok r,f=>f r
 |.exc c fs,_=>.exc c fs
 |.bad,_=>.bad
def OE.cW(ρ:ag):OE->(RV->OS)->OS
 |.ok r,f=>f r
 |.exc c fs,_=>.exc ρ c fs
 |.bad,_=>.bad
def OT.bind:OT->(Bool->OE)->OE
 |.ok r,f=>f r
 |.exc c fs,_=>.exc c fs
 |.bad,_=>.bad
def OT.gc:OT->(Bool->OT)->OT
 |.ok r,f=>f r
 |.exc c fs,_=>.exc c fs
 |.bad,_=>.bad
def OT.cW(ρ:ag):OT->(Bool->OS)->OS
 |.ok r,f=>f r
 |.exc c fs,_=>.exc ρ c fs
 |.bad,_=>.bad
def OA.bind:OA->(List PV->OE)->OE
 |.ok r,f=>f r
 |.exc c fs,_=>.exc c fs
 |.bad,_=>.bad
def OA.fI:OA->(List PV->OA)->OA
 |.ok r,f=>f r
 |.exc c fs,_=>.exc c fs
 |.bad,_=>.bad
def OA.cW(ρ:ag):OA->(List PV->OS)->OS
 |.ok r,f=>f r
 |.exc c fs,_=>.exc ρ c fs
 |.bad,_=>.bad
def ao(i:Nat):ag->OE:=fun ρ=>match ρ[i]? with
 |some (some (.sh x))=>.ok (.sh x)
 |some (some (.ow xs))=>.ok (.al xs)
 |_=>.bad
def mC(x:PV):ag->OE:=fun _=>.ok (.sh x)
def oE:Option RV->OE
 |some r=>.ok r
 |none=>.bad
def mOp(g:PV->PV->Option RV)(ma mb:ag->OE):ag->OE:=fun ρ=>(ma ρ).bind fun a=>(mb ρ).bind fun b=>oE (g a.pv b.pv)
def gI(C:Int->Int->Bool)(f:Int->Int->PV):PV->PV->Option RV
 |.int i,.int j=>if C i j then some (.sh (f i j))else none
 |_,_=>none
def eX:=gI (fun _ _=>true) fun i j=>.int (i+j)
def wA:=gI (fun _ _=>true) fun i j=>.int (i - j)
def y2:=gI (fun i j=>(decide (-(2 ^ 64)<i)&&decide (i<2 ^ 64))||(decide (-(2 ^ 64)<j)&&decide (j<2 ^ 64))) fun i j=>.int (i*j)
def dA:=gI (fun _ j=>decide (0<j)&&decide (j<1073741824)) fun i j=>.int (i/j)
def cw:=gI (fun _ j=>decide (0<j)) fun i j=>.int (i%j)
def gLt:=gI (fun _ _=>true) fun i j=>.bl (decide (i<j))
def gLe:=gI (fun _ _=>true) fun i j=>.bl (decide (i<=j))
def gGt:=gI (fun _ _=>true) fun i j=>.bl (decide (j<i))
def gGe:=gI (fun _ _=>true) fun i j=>.bl (decide (j<=i))
def eqS:PV->PV->Option Bool
 |.non,.non=>some true|.non,.int _=>some false|.int _,.non=>some false|.non,.bl _=>some false|.bl _,.non=>some false|.non,.str _=>some false|.str _,.non=>some false
 |.int a,.int b=>some (decide (a=b))|.bl a,.bl b=>some (decide (a=b))|.str a,.str b=>some (decide (a=b))
 |.int _,.str _=>some false|.str _,.int _=>some false|.bl _,.str _=>some false|.str _,.bl _=>some false
 |_,_=>none
def gEq:PV->PV->Option RV:=fun x y=>(eqS x y).map fun b=>.sh (.bl b)
def gNe:PV->PV->Option RV:=fun x y=>(eqS x y).map fun b=>.sh (.bl (!b))
def m4:RV->Option PV
 |.sh x=>some x
 |.fr xs=>some (.lst xs)
 |.al _=>none
def aJ:ag->OA:=fun _=>.ok []
def ak(me:ag->OE)(mr:ag->OA):ag->OA:=fun ρ=>(me ρ).fI fun r=>match m4 r with
 |some x=>(mr ρ).fI fun xs=>.ok (x ::xs)
 |none=>.bad
def lim:Nat:=16777216
def bT(ma:ag->OA):ag->OE:=fun ρ=>(ma ρ).bind fun xs=>if xs.length<=lim then .ok (.fr xs)else .bad
def eU(ma:ag->OA):ag->OE:=fun ρ=>(ma ρ).bind fun xs=>if xs.length<=lim then .ok (.sh (.tup xs))else .bad
def br(f:List PV->OE)(ma:ag->OA):ag->OE:=fun ρ=>(ma ρ).bind f
def mUn(g:PV->Option RV)(ma:ag->OE):ag->OE:=fun ρ=>(ma ρ).bind fun a=>oE (g a.pv)
def gn:PV->Option RV
 |.int i=>some (.sh (.int (-i)))
 |_=>none
def xO:PV->Option RV
 |.lst xs=>some (.sh (.int xs.length))
 |.tup xs=>some (.sh (.int xs.length))
 |_=>none
def zb:PV->Option RV
 |.int i=>some (.sh (.int i))
 |.bl b=>some (.sh (.int (if b then 1 else 0)))
 |_=>none
def nk:PV->PV->Option RV
 |.lst xs,.int i=>(atP xs i).map .sh
 |_,_=>none
def dw:PV->PV->Option RV
 |.tup xs,.int i=>(atP xs i).map .sh
 |_,_=>none
def iQ:PV->PV->Option RV
 |.lst xs,.lst ys=>if xs.length+ys.length<=lim then some (.fr (xs++ys))else none
 |_,_=>none
def tQ:List PV->Option (List Int)
 |[]=>some []
 |.int i ::r=>(tQ r).map (i ::·)
 |_ ::_=>none
def A1:PV->PV->Option Bool
 | .lst xs,.lst ys=>match tQ xs,tQ ys with
   |some a,some b=>some (decide (a=b))
   |_,_=>none
 |_,_=>none
def yK:PV->PV->Option RV:=fun x y=>(A1 x y).map fun b=>.sh (.bl b)
def Dk:PV->PV->Option RV:=fun x y=>(A1 x y).map fun b=>.sh (.bl (!b))
def qb:List PV->Option (List Bool)
 |[]=>some []
 |.bl i ::r=>(qb r).map (i ::·)
 |_ ::_=>none
def Dx:PV->Option RV
 |.lst xs=>(qb xs).map fun bs=>.sh (.bl (bs.all id))
 |_=>none
def isP(T:String):PV->Option Bool
 |.int _=>if T = "int" then some true else if T = "bool" \/ T = "list" \/ T = "tuple" \/ T = "str" then some false else none
 |.bl _=>if T = "int" \/ T = "bool" then some true else if T = "list" \/ T = "tuple" \/ T = "str" then some false else none
 |.non=>if T = "int" \/ T = "bool" \/ T = "list" \/ T = "tuple" \/ T = "str" then some false else none
 |.str _=>if T = "str" then some true else if T = "int" \/ T = "bool" \/ T = "list" \/ T = "tuple" then some false else none
 |.lst _=>if T = "list" then some true else if T = "int" \/ T = "bool" \/ T = "tuple" \/ T = "str" then some false else none
 |.tup _=>if T = "tuple" then some true else if T = "int" \/ T = "bool" \/ T = "list" \/ T = "str" then some false else none
def mIs(T:String)(ma:ag->OE):ag->OE:=mUn (fun x=>(isP T x).map fun b=>.sh (.bl b)) ma
def ud:PV->Option Bool
 |.non=>some false
 |.bl b=>some b
 |.int i=>some (i != 0)
 |.lst xs=>some (!xs.isEmpty)
 |.tup xs=>some (!xs.isEmpty)
 |.str _=>none
def oT:Option Bool->OT
 |some b=>.ok b
 |none=>.bad
def dM(ma:ag->OE):ag->OT:=fun ρ=>(ma ρ).gc fun r=>oT (ud r.pv)
def az(ma:ag->OE):ag->OT:=fun ρ=>(ma ρ).gc fun r=>match r.pv with
 |.bl b=>.ok b
 |_=>.bad
def BK(m:ag->OT):ag->OT:=fun ρ=>(m ρ).gc fun b=>.ok (!b)
def da(m n:ag->OT):ag->OT:=fun ρ=>(m ρ).gc fun b=>if b=true then n ρ else .ok false
def kX(m n:ag->OT):ag->OT:=fun ρ=>(m ρ).gc fun b=>if b=true then .ok true else n ρ
def BP(m n:ag->OE):ag->OE:=fun ρ=>(m ρ).bind fun r=>match r.pv with
 |.bl b=>if b=true then n ρ else .ok (.sh (.bl false))
 |_=>.bad
def Ey(m:ag->OE):ag->OE:=fun ρ=>(m ρ).bind fun r=>match r.pv with
 |.bl b=>.ok (.sh (.bl (!b)))
 |_=>.bad
def gk(c:ag->OT)(m n:ag->OE):ag->OE:=fun ρ=>(c ρ).bind fun b=>if b=true then m ρ else n ρ
def iJ(g g':PV->PV->Option RV)(ma mb mc:ag->OE):ag->OE:=fun ρ=>(ma ρ).bind fun a=>(mb ρ).bind fun b=>(oE (g a.pv b.pv)).bind fun r=>match r.pv with
 |.bl k=>if k=true then(mc ρ).bind fun c=>oE (g' b.pv c.pv)else .ok (.sh (.bl false))
 |_=>.bad
def OS.andThen:OS->(ag->OS)->OS
 |.nx ρ,k=>k ρ
 |o,_=>o
def OS.turn:OS->(ag->OS)->OS
 |.nx ρ,k=>k ρ
 |.ct ρ,k=>k ρ
 |.bk ρ,_=>.nx ρ
 |o,_=>o
def aG(a b:ag->OS):ag->OS:=fun ρ=>(a ρ).andThen b
def aO:ag->OS:=fun ρ=>.nx ρ
def Fm:RV->Option Sl
 |.sh x=>some (.sh x)
 |.fr xs=>some (.ow xs)
 |.al _=>none
def bf(i:Nat)(me:ag->OE):ag->OS:=fun ρ=>(me ρ).cW ρ fun r=>match Fm r with
 |some s=>.nx (ρ.set i (some s))
 |none=>.bad
def bb(c:ag->OT)(m n:ag->OS):ag->OS:=fun ρ=>(c ρ).cW ρ fun b=>if b=true then m ρ else n ρ
def aZ(me:ag->OE):ag->OS:=fun ρ=>(me ρ).cW ρ fun r=>match r with
 |.al _=>.bad
 |r=>.rt ρ r
def gY(i:Nat):ag->OS:=fun ρ=>match ρ[i]? with
 |some (some (.sh x))=>.rt ρ (.sh x)
 |some (some (.ow xs))=>.rt (ρ.set i none) (.fr xs)
 |_=>.bad
def kR(i:Nat)(ρ:ag):ag:=match ρ[i]? with
 |some (some (.ow xs))=>ρ.set i (some (.sh (.lst xs)))
 |_=>ρ
def eR(i:Nat)(me:ag->OE):ag->OS:=fun ρ=>match ρ[i]? with
 | some (some (.ow xs))=>(me ρ).cW ρ fun r=>match m4 r with
   |some y=>if xs.length<lim then .nx (ρ.set i (some (.ow (xs++[y]))))else .bad
   |none=>.bad
 |_=>.bad
def gR(i:Nat)(mb:ag->OS):List PV->ag->OS
 |[],ρ=>.nx ρ
 |x ::xs,ρ=>(mb (ρ.set i (some (.sh x)))).turn (gR i mb xs)
def zt:RV->Option (List PV)
 |.sh (.lst xs)=>some xs
 |.fr xs=>some xs
 |_=>none
def mw(i:Nat)(ml:ag->OE)(mb:ag->OS):ag->OS:=fun ρ=>(ml ρ).cW ρ fun r=>match zt r with
 |some xs=>gR i mb xs ρ
 |none=>.bad
def dE(n:Nat):List PV:=(List.range n).map fun k:Nat=>PV.int (k:Int)
def uy(i:Nat)(me:ag->OE)(mb:ag->OS):ag->OS:=fun ρ=>(me ρ).cW ρ fun r=>match r.pv with
 |.int j=>if -(2 ^ 62)<=j /\ j<2 ^ 62 then gR i mb (dE j.toNat) ρ else .bad
 |_=>.bad
def fV(mc:ag->OT)(mb:ag->OS):Nat->ag->OS
 |0,_=>.bad
 |n+1,ρ=>(mc ρ).cW ρ fun b=>if b=true then(mb ρ).turn (fV mc mb n)else .nx ρ
def sN:PV->Option Int
 |.int i=>some i
 |_=>none
def kb(m:ag->OE):ag->OE:=fun ρ=>(m ρ).bind fun r=>match r.pv with
 |.int i=>.ok (.sh (.int i))
 |_=>.bad
def By(xs:List PV)(lo hi:Option Int):List PV:=(xs.drop (wB xs.length 0 lo)).take (wB xs.length xs.length hi - wB xs.length 0 lo)
def EB(x:PV)(lo hi:Option Int):Option RV:=match x with
 |.lst xs=>some (.fr (By xs lo hi))
 |_=>none
def oX(ma ml mh:ag->OE):ag->OE:=fun ρ=>(ma ρ).bind fun a=>(ml ρ).bind fun l=>(mh ρ).bind fun h=>oE (EB a.pv (sN l.pv) (sN h.pv))
def cX(ι:List Nat)(ρ:ag):ag:=ι.map fun i=>(ρ[i]?).join
def dg(me:ag->OE)(ρ:ag):List PV->OA
 |[]=>.ok []
 | x ::xs=>(me (ρ++[some (.sh x)])).fI fun r=>match m4 r with
   |some y=>(dg me ρ xs).fI fun ys=>.ok (y ::ys)
   |none=>.bad
def noX:OA->OE
 |.ok xs=>if xs.length<=lim then .ok (.fr xs)else .bad
 |_=>.bad
def rb(ml:ag->OE)(ι:List Nat)(me:ag->OE):ag->OE:=fun ρ=>(ml ρ).bind fun r=>match r.pv with
 |.lst xs=>noX (dg me (cX ι ρ) xs)
 |_=>.bad
def yI(mn:ag->OE)(ι:List Nat)(me:ag->OE):ag->OE:=fun ρ=>(mn ρ).bind fun r=>match r.pv with
 |.int j=>if -(2 ^ 62)<=j /\ j<2 ^ 62 then noX (dg me (cX ι ρ) (dE j.toNat))else .bad
 |_=>.bad
def fin:OS->OE
 |.nx _=>.ok (.sh .non)
 |.rt _ (.al _)=>.bad
 |.rt _ r=>.ok r
 |.exc _ c fs=>.exc c fs
 |_=>.bad
def kB(n:Nat)(xs:List PV):ag:=xs.map (fun x=>some (.sh x))++List.replicate (n - xs.length) none
def fnP(np n:Nat)(m:ag->OS):List PV->OE:=fun xs=>if xs.length=np then fin (m (kB n xs))else .bad
def fuel:Nat:=100000
def gw(i:Nat)(m:ag->OS):ag->OS:=fun ρ=>m (kR i ρ)
def cC:PV->Bool
 |.non=>true
 |_=>false
def se:PV->PV->Option RV
 |x,.non=>some (.sh (.bl (cC x)))
 |_,_=>none
def u6:PV->PV->Option RV
 |x,.non=>some (.sh (.bl (!cC x)))
 |_,_=>none
@[simp] theorem AX(i:Nat)(ρ:ag):ao i ρ=(match ρ[i]? with
  |some (some (.sh x))=>.ok (.sh x)
  |some (some (.ow xs))=>.ok (.al xs)
  |_=>.bad):=rfl
@[simp] theorem Ik(g:PV->PV->Option RV)(ma mb:ag->OE)(ρ:ag):mOp g ma mb ρ=((ma ρ).bind fun a=>(mb ρ).bind fun b=>oE (g a.pv b.pv)):=rfl
@[simp] theorem MM(me:ag->OE)(mr:ag->OA)(ρ:ag):ak me mr ρ=((me ρ).fI fun r=>match m4 r with
  |some x=>(mr ρ).fI fun xs=>.ok (x ::xs)
  |none=>.bad):=rfl
@[simp] theorem NH(ma:ag->OA)(ρ:ag):bT ma ρ=((ma ρ).bind fun xs=>if xs.length<=lim then .ok (.fr xs)else .bad):=rfl
@[simp] theorem M8(ma:ag->OA)(ρ:ag):eU ma ρ=((ma ρ).bind fun xs=>if xs.length<=lim then .ok (.sh (.tup xs))else .bad):=rfl
@[simp] theorem MO(f:List PV->OE)(ma:ag->OA)(ρ:ag):br f ma ρ=((ma ρ).bind f):=rfl
@[simp] theorem CB(g:PV->Option RV)(ma:ag->OE)(ρ:ag):mUn g ma ρ=((ma ρ).bind fun a=>oE (g a.pv)):=rfl
@[simp] theorem FP(ma:ag->OE)(ρ:ag):dM ma ρ=((ma ρ).gc fun r=>oT (ud r.pv)):=rfl
@[simp] theorem HM(ma:ag->OE)(ρ:ag):az ma ρ=((ma ρ).gc fun r=>match r.pv with
  |.bl b=>.ok b
  |_=>.bad):=rfl
@[simp] theorem MU(m:ag->OT)(ρ:ag):BK m ρ=((m ρ).gc fun b=>.ok (!b)):=rfl
@[simp] theorem GW(m n:ag->OT)(ρ:ag):da m n ρ=((m ρ).gc fun b=>if b=true then n ρ else .ok false):=rfl
@[simp] theorem Ny(m n:ag->OT)(ρ:ag):kX m n ρ=((m ρ).gc fun b=>if b=true then .ok true else n ρ):=rfl
@[simp] theorem MJ(m n:ag->OE)(ρ:ag):BP m n ρ=((m ρ).bind fun r=>match r.pv with
  |.bl b=>if b=true then n ρ else .ok (.sh (.bl false))
  |_=>.bad):=rfl
@[simp] theorem MG(m:ag->OE)(ρ:ag):Ey m ρ=((m ρ).bind fun r=>match r.pv with
  |.bl b=>.ok (.sh (.bl (!b)))
  |_=>.bad):=rfl
@[simp] theorem Nj(c:ag->OT)(m n:ag->OE)(ρ:ag):gk c m n ρ=((c ρ).bind fun b=>if b=true then m ρ else n ρ):=rfl
@[simp] theorem Mo(g g':PV->PV->Option RV)(ma mb mc:ag->OE)(ρ:ag):iJ g g' ma mb mc ρ=((ma ρ).bind fun a=>(mb ρ).bind fun b=>(oE (g a.pv b.pv)).bind fun r=>match r.pv with
  |.bl k=>if k=true then(mc ρ).bind fun c=>oE (g' b.pv c.pv)else .ok (.sh (.bl false))
  |_=>.bad):=rfl
@[simp] theorem pI(a b:ag->OS)(ρ:ag):aG a b ρ=((a ρ).andThen b):=rfl
@[simp] theorem Hj(ρ:ag):aO  ρ=(.nx ρ):=rfl
@[simp] theorem Et(i:Nat)(me:ag->OE)(ρ:ag):bf i me ρ=((me ρ).cW ρ fun r=>match Fm r with
  |some s=>.nx (ρ.set i (some s))
  |none=>.bad):=rfl
@[simp] theorem Bp(c:ag->OT)(m n:ag->OS)(ρ:ag):bb c m n ρ=((c ρ).cW ρ fun b=>if b=true then m ρ else n ρ):=rfl
@[simp] theorem ER(me:ag->OE)(ρ:ag):aZ me ρ=((me ρ).cW ρ fun r=>match r with
  |.al _=>.bad
  |r=>.rt ρ r):=rfl
@[simp] theorem LK(i:Nat)(ρ:ag):gY i ρ=(match ρ[i]? with
  |some (some (.sh x))=>.rt ρ (.sh x)
  |some (some (.ow xs))=>.rt (ρ.set i none) (.fr xs)
  |_=>.bad):=rfl
@[simp] theorem LG(i:Nat)(me:ag->OE)(ρ:ag):eR i me ρ=(match ρ[i]? with
  | some (some (.ow xs))=>(me ρ).cW ρ fun r=>match m4 r with
    |some y=>if xs.length<lim then .nx (ρ.set i (some (.ow (xs++[y]))))else .bad
    |none=>.bad
  |_=>.bad):=rfl
@[simp] theorem MF(i:Nat)(ml:ag->OE)(mb:ag->OS)(ρ:ag):mw i ml mb ρ=((ml ρ).cW ρ fun r=>match zt r with
  |some xs=>gR i mb xs ρ
  |none=>.bad):=rfl
@[simp] theorem M0(i:Nat)(me:ag->OE)(mb:ag->OS)(ρ:ag):uy i me mb ρ=((me ρ).cW ρ fun r=>match r.pv with
  |.int j=>if -(2 ^ 62)<=j /\ j<2 ^ 62 then gR i mb (dE j.toNat) ρ else .bad
  |_=>.bad):=rfl
@[simp] theorem MK(m:ag->OE)(ρ:ag):kb m ρ=((m ρ).bind fun r=>match r.pv with
  |.int i=>.ok (.sh (.int i))
  |_=>.bad):=rfl
@[simp] theorem NT(ma ml mh:ag->OE)(ρ:ag):oX ma ml mh ρ=((ma ρ).bind fun a=>(ml ρ).bind fun l=>(mh ρ).bind fun h=>oE (EB a.pv (sN l.pv) (sN h.pv))):=rfl
@[simp] theorem Fj(ml:ag->OE)(ι:List Nat)(me:ag->OE)(ρ:ag):rb ml ι me ρ=((ml ρ).bind fun r=>match r.pv with
  |.lst xs=>noX (dg me (cX ι ρ) xs)
  |_=>.bad):=rfl
@[simp] theorem Mh(mn:ag->OE)(ι:List Nat)(me:ag->OE)(ρ:ag):yI mn ι me ρ=((mn ρ).bind fun r=>match r.pv with
  |.int j=>if -(2 ^ 62)<=j /\ j<2 ^ 62 then noX (dg me (cX ι ρ) (dE j.toNat))else .bad
  |_=>.bad):=rfl
@[simp] theorem LJ(i:Nat)(m:ag->OS)(ρ:ag):gw i m ρ=(m (kR i ρ)):=rfl
@[simp] theorem Nr(x:PV)(ρ:ag):mC x ρ=.ok (.sh x):=rfl
@[simp] theorem Nf(ρ:ag):aJ ρ=.ok []:=rfl
@[simp] theorem ng(r:RV)(f:RV->OE):OE.bind (.ok r) f=f r:=rfl
@[simp] theorem KZ(c:String)(fs:XF)(f:RV->OE):OE.bind (.exc c fs) f=.exc c fs:=rfl
@[simp] theorem JK{p:Prop}[Decidable p](x y:OE)(f:RV->OE):OE.bind (if p then x else y) f=if p then OE.bind x f else OE.bind y f:=by split<;>rfl
@[simp] theorem Le(r:RV)(f:RV->OT):OE.gc (.ok r) f=f r:=rfl
@[simp] theorem IL(c:String)(fs:XF)(f:RV->OT):OE.gc (.exc c fs) f=.exc c fs:=rfl
@[simp] theorem IJ{p:Prop}[Decidable p](x y:OE)(f:RV->OT):OE.gc (if p then x else y) f=if p then OE.gc x f else OE.gc y f:=by split<;>rfl
@[simp] theorem Lk(r:RV)(f:RV->OA):OE.fI (.ok r) f=f r:=rfl
@[simp] theorem Ir(c:String)(fs:XF)(f:RV->OA):OE.fI (.exc c fs) f=.exc c fs:=rfl
@[simp] theorem Io{p:Prop}[Decidable p](x y:OE)(f:RV->OA):OE.fI (if p then x else y) f=if p then OE.fI x f else OE.fI y f:=by split<;>rfl
@[simp] theorem LI(r:Bool)(f:Bool->OE):OT.bind (.ok r) f=f r:=rfl
@[simp] theorem JF(c:String)(fs:XF)(f:Bool->OE):OT.bind (.exc c fs) f=.exc c fs:=rfl
@[simp] theorem Jz{p:Prop}[Decidable p](x y:OT)(f:Bool->OE):OT.bind (if p then x else y) f=if p then OT.bind x f else OT.bind y f:=by split<;>rfl
@[simp] theorem Jw(r:Bool)(f:Bool->OT):OT.gc (.ok r) f=f r:=rfl
@[simp] theorem IA(c:String)(fs:XF)(f:Bool->OT):OT.gc (.exc c fs) f=.exc c fs:=rfl
@[simp] theorem II{p:Prop}[Decidable p](x y:OT)(f:Bool->OT):OT.gc (if p then x else y) f=if p then OT.gc x f else OT.gc y f:=by split<;>rfl
@[simp] theorem LH(r:List PV)(f:List PV->OE):OA.bind (.ok r) f=f r:=rfl
@[simp] theorem Ji(c:String)(fs:XF)(f:List PV->OE):OA.bind (.exc c fs) f=.exc c fs:=rfl
@[simp] theorem K0{p:Prop}[Decidable p](x y:OA)(f:List PV->OE):OA.bind (if p then x else y) f=if p then OA.bind x f else OA.bind y f:=by split<;>rfl
@[simp] theorem Jn(r:List PV)(f:List PV->OA):OA.fI (.ok r) f=f r:=rfl
@[simp] theorem IM(c:String)(fs:XF)(f:List PV->OA):OA.fI (.exc c fs) f=.exc c fs:=rfl
@[simp] theorem Iw{p:Prop}[Decidable p](x y:OA)(f:List PV->OA):OA.fI (if p then x else y) f=if p then OA.fI x f else OA.fI y f:=by split<;>rfl
@[simp] theorem fu(ρ:ag)(r:RV)(f:RV->OS):OE.cW ρ (.ok r) f=f r:=rfl
@[simp] theorem Iy(ρ:ag)(c:String)(fs:XF)(f:RV->OS):OE.cW ρ (.exc c fs) f=.exc ρ c fs:=rfl
@[simp] theorem Ja{p:Prop}[Decidable p](ρ:ag)(x y:OE)(f:RV->OS):OE.cW ρ (if p then x else y) f=if p then OE.cW ρ x f else OE.cW ρ y f:=by split<;>rfl
@[simp] theorem lq(ρ:ag)(r:Bool)(f:Bool->OS):OT.cW ρ (.ok r) f=f r:=rfl
@[simp] theorem Ih(ρ:ag)(c:String)(fs:XF)(f:Bool->OS):OT.cW ρ (.exc c fs) f=.exc ρ c fs:=rfl
@[simp] theorem IB{p:Prop}[Decidable p](ρ:ag)(x y:OT)(f:Bool->OS):OT.cW ρ (if p then x else y) f=if p then OT.cW ρ x f else OT.cW ρ y f:=by split<;>rfl
@[simp] theorem KO(ρ:ag)(r:List PV)(f:List PV->OS):OA.cW ρ (.ok r) f=f r:=rfl
@[simp] theorem I0(ρ:ag)(c:String)(fs:XF)(f:List PV->OS):OA.cW ρ (.exc c fs) f=.exc ρ c fs:=rfl
@[simp] theorem IE{p:Prop}[Decidable p](ρ:ag)(x y:OA)(f:List PV->OS):OA.cW ρ (if p then x else y) f=if p then OA.cW ρ x f else OA.cW ρ y f:=by split<;>rfl
@[simp] theorem jI(ρ:ag)(k:ag->OS):(OS.nx ρ).andThen k=k ρ:=rfl
@[simp] theorem nG(ρ:ag)(k:ag->OS):(OS.nx ρ).turn k=k ρ:=rfl
@[simp] theorem KP(ρ:ag)(k:ag->OS):(OS.bk ρ).andThen k=OS.bk ρ:=rfl
@[simp] theorem MS(ρ:ag)(k:ag->OS):(OS.bk ρ).turn k=.nx ρ:=rfl
@[simp] theorem K4(ρ:ag)(k:ag->OS):(OS.ct ρ).andThen k=OS.ct ρ:=rfl
@[simp] theorem ME(ρ:ag)(k:ag->OS):(OS.ct ρ).turn k=k ρ:=rfl
@[simp] theorem vd(ρ:ag)(r:RV)(k:ag->OS):(OS.rt ρ r).andThen k=OS.rt ρ r:=rfl
@[simp] theorem BF(ρ:ag)(r:RV)(k:ag->OS):(OS.rt ρ r).turn k=OS.rt ρ r:=rfl
@[simp] theorem IX(ρ:ag)(c:String)(fs:XF)(k:ag->OS):(OS.exc ρ c fs).andThen k=OS.exc ρ c fs:=rfl
@[simp] theorem Mr(ρ:ag)(c:String)(fs:XF)(k:ag->OS):(OS.exc ρ c fs).turn k=OS.exc ρ c fs:=rfl
@[simp] theorem Ii{p:Prop}[Decidable p](x y:OS)(k:ag->OS):OS.andThen (if p then x else y) k=if p then x.andThen k else y.andThen k:=by split<;>rfl
@[simp] theorem Ms{p:Prop}[Decidable p](x y:OS)(k:ag->OS):OS.turn (if p then x else y) k=if p then x.turn k else y.turn k:=by split<;>rfl
@[simp] theorem NM(ρ:ag):fin (.nx ρ)=.ok (.sh .non):=rfl
@[simp] theorem NN(ρ:ag)(x:PV):fin (.rt ρ (.sh x))=.ok (.sh x):=rfl
@[simp] theorem Nk(ρ:ag)(x:List PV):fin (.rt ρ (.fr x))=.ok (.fr x):=rfl
@[simp] theorem MZ(ρ:ag)(c:String)(fs:XF):fin (.exc ρ c fs)=.exc c fs:=rfl
@[simp] theorem MD{p:Prop}[Decidable p](x y:OS):fin (if p then x else y)=if p then fin x else fin y:=by split<;>rfl
@[simp] theorem N6(x:PV):RV.pv (.sh x)=x:=rfl
@[simp] theorem Ew(x:List PV):RV.pv (.fr x)=.lst x:=rfl
@[simp] theorem DX(x:List PV):RV.pv (.al x)=.lst x:=rfl
@[simp] theorem yf(r:RV):oE (some r)=.ok r:=rfl
@[simp] theorem M1(r:Bool):oT (some r)=.ok r:=rfl
@[simp] theorem LD(i:Nat)(mb:ag->OS)(ρ:ag):gR i mb [] ρ=.nx ρ:=rfl
@[simp] theorem jM(i:Nat)(mb:ag->OS)(x:PV)(xs:List PV)(ρ:ag):gR i mb (x ::xs) ρ=(mb (ρ.set i (some (.sh x)))).turn (gR i mb xs):=rfl
@[simp] theorem Na(i j:Int):eX (.int i) (.int j)=some (.sh (.int (i+j))):=rfl
@[simp] theorem NP(i j:Int):wA (.int i) (.int j)=some (.sh (.int (i - j))):=rfl
@[simp] theorem NO(i j:Int):y2 (.int i) (.int j)=if((decide (-(2 ^ 64)<i)&&decide (i<2 ^ 64))||(decide (-(2 ^ 64)<j)&&decide (j<2 ^ 64)))=true then some (.sh (.int (i*j)))else none:=rfl
@[simp] theorem M7(i j:Int):dA (.int i) (.int j)=if(decide (0<j)&&decide (j<1073741824))=true then some (.sh (.int (i/j)))else none:=rfl
@[simp] theorem Nz(i j:Int):cw (.int i) (.int j)=if decide (0<j)=true then some (.sh (.int (i%j)))else none:=rfl
@[simp] theorem NX(i j:Int):gLt (.int i) (.int j)=some (.sh (.bl (decide (i<j)))):=rfl
@[simp] theorem N0(i j:Int):gLe (.int i) (.int j)=some (.sh (.bl (decide (i<=j)))):=rfl
@[simp] theorem NY(i j:Int):gGt (.int i) (.int j)=some (.sh (.bl (decide (j<i)))):=rfl
@[simp] theorem Oe(i j:Int):gGe (.int i) (.int j)=some (.sh (.bl (decide (j<=i)))):=rfl
@[simp] theorem Og(i j:Int):gEq (.int i) (.int j)=some (.sh (.bl (decide (i=j)))):=rfl
@[simp] theorem Of(i j:Int):gNe (.int i) (.int j)=some (.sh (.bl (!decide (i=j)))):=rfl
@[simp] theorem NZ(i j:Bool):gEq (.bl i) (.bl j)=some (.sh (.bl (decide (i=j)))):=rfl
@[simp] theorem Oi(i j:Bool):gNe (.bl i) (.bl j)=some (.sh (.bl (!decide (i=j)))):=rfl
@[simp] theorem Js(xs:List PV):xO (.lst xs)=some (.sh (.int xs.length)):=rfl
@[simp] theorem Nv(xs:List PV):xO (.tup xs)=some (.sh (.int xs.length)):=rfl
@[simp] theorem NQ(xs:List PV)(i:Int):nk (.lst xs) (.int i)=(atP xs i).map .sh:=rfl
@[simp] theorem Nq(xs:List PV)(i:Int):dw (.tup xs) (.int i)=(atP xs i).map .sh:=rfl
@[simp] theorem LC(xs ys:List PV):iQ (.lst xs) (.lst ys)=if xs.length+ys.length<=lim then some (.fr (xs++ys))else none:=rfl
@[simp] theorem NG{p:Prop}[Decidable p](x y:Option RV):oE (if p then x else y)=if p then oE x else oE y:=by split<;>rfl
@[simp] theorem NV(b:Bool):ud (.bl b)=some b:=rfl
@[simp] theorem NU(i:Int):ud (.int i)=some (i != 0):=rfl
@[simp] theorem Nu(xs:List PV):ud (.lst xs)=some (!xs.isEmpty):=rfl
@[simp] theorem NL(xs:List PV):ud (.tup xs)=some (!xs.isEmpty):=rfl
@[simp] theorem Ni:ud .non=some false:=rfl
@[simp] theorem LF(i:Int):isP "int" (.int i)=some true:=rfl
@[simp] theorem Ly(i:Int):isP "bool" (.int i)=some false:=rfl
@[simp] theorem K8(i:Bool):isP "bool" (.bl i)=some true:=rfl
@[simp] theorem KD(xs:List PV):isP "list" (.lst xs)=some true:=rfl
@[simp] theorem Ng(xs:List PV)(lo hi:Option Int):EB (.lst xs) lo hi=some (.fr (By xs lo hi)):=rfl
@[simp] theorem MW:sN .non=none:=rfl
@[simp] theorem M5(i:Int):sN (.int i)=some i:=rfl
@[simp] theorem Np(i:Int):gn (.int i)=some (.sh (.int (-i))):=rfl
@[simp] theorem MV(i:Int):zb (.int i)=some (.sh (.int i)):=rfl
@[simp] theorem MX(i:Bool):zb (.bl i)=some (.sh (.int (if i then 1 else 0))):=rfl
@[simp] theorem M4(x:PV):m4 (.sh x)=some x:=rfl
@[simp] theorem MB(x:List PV):m4 (.fr x)=some (.lst x):=rfl
@[simp] theorem MH(x:PV):Fm (.sh x)=some (.sh x):=rfl
@[simp] theorem Gn(x:List PV):Fm (.fr x)=some (.ow x):=rfl
@[simp] theorem Cj(np n:Nat)(m:ag->OS)(xs:List PV):fnP np n m xs=if xs.length=np then fin (m (kB n xs))else .bad:=rfl
@[simp] theorem sC(n:Nat)(xs:List PV):kB n xs=xs.map (fun x=>some (.sh x))++List.replicate (n - xs.length) none:=rfl
@[simp] theorem Bz(xs:List PV):zt (.sh (.lst xs))=some xs:=rfl
@[simp] theorem M3(xs:List PV):zt (.fr xs)=some xs:=rfl
@[simp] theorem NS(x:PV):se x .non=some (.sh (.bl (cC x))):=rfl
@[simp] theorem MQ(x:PV):u6 x .non=some (.sh (.bl (!cC x))):=rfl
@[simp] theorem FD(xs:List PV):noX (.ok xs)=if xs.length<=lim then .ok (.fr xs)else .bad:=rfl
@[simp] theorem JW(me:ag->OE)(ρ:ag):dg me ρ []=.ok []:=rfl
@[simp] theorem Ka(f:RV->OE):OE.bind .bad f=.bad:=rfl
@[simp] theorem IC(f:RV->OT):OE.gc .bad f=.bad:=rfl
@[simp] theorem Iu(f:RV->OA):OE.fI .bad f=.bad:=rfl
@[simp] theorem JV(f:Bool->OE):OT.bind .bad f=.bad:=rfl
@[simp] theorem Iz(f:Bool->OT):OT.gc .bad f=.bad:=rfl
@[simp] theorem Lq(f:List PV->OE):OA.bind .bad f=.bad:=rfl
@[simp] theorem Im(f:List PV->OA):OA.fI .bad f=.bad:=rfl
@[simp] theorem IY(ρ:ag)(f:RV->OS):OE.cW ρ .bad f=.bad:=rfl
@[simp] theorem I9(ρ:ag)(f:Bool->OS):OT.cW ρ .bad f=.bad:=rfl
@[simp] theorem IF(ρ:ag)(f:List PV->OS):OA.cW ρ .bad f=.bad:=rfl
@[simp] theorem IQ(k:ag->OS):OS.bad.andThen k=.bad:=rfl
@[simp] theorem Mz(k:ag->OS):OS.bad.turn k=.bad:=rfl
@[simp] theorem M6:fin .bad=.bad:=rfl
@[simp] theorem MY:oE none=.bad:=rfl
@[simp] theorem MI:oT none=.bad:=rfl
@[simp] theorem MN(x:List PV):m4 (.al x)=none:=rfl
@[simp] theorem MR(x:List PV):Fm (.al x)=none:=rfl
@[simp] theorem N5:(0<=lim)=True:=by simp[lim]
@[simp] theorem N3:(1<=lim)=True:=by simp[lim]
@[simp] theorem Oc:(2<=lim)=True:=by simp[lim]
@[simp] theorem N1:(3<=lim)=True:=by simp[lim]
@[simp] theorem N8:(4<=lim)=True:=by simp[lim]
@[simp] theorem Ob:(5<=lim)=True:=by simp[lim]
@[simp] theorem Oa:(6<=lim)=True:=by simp[lim]
@[simp] theorem Oh:(7<=lim)=True:=by simp[lim]
@[simp] theorem N9:(8<=lim)=True:=by simp[lim]
@[simp] theorem Oj:(9<=lim)=True:=by simp[lim]
@[simp] theorem NC:(10<=lim)=True:=by simp[lim]
@[simp] theorem ND:(11<=lim)=True:=by simp[lim]
@[simp] theorem Nb:(12<=lim)=True:=by simp[lim]
@[simp] theorem NF:(13<=lim)=True:=by simp[lim]
@[simp] theorem M9:(14<=lim)=True:=by simp[lim]
@[simp] theorem Nl:(15<=lim)=True:=by simp[lim]
@[simp] theorem Nx:(16<=lim)=True:=by simp[lim]
theorem df{n:Nat}(h:n<=1000000):n<=lim:=by unfold lim;omega
theorem tN{n:Nat}(h:n<=1000000):n<lim:=by unfold lim;omega
theorem uM{α:Type}(xs:List α)(k:Nat):atP xs (k:Int)=xs[k]?:=by
 unfold atP ixP
 by_cases h:k<xs.length
 . simp[h]
 . simp[h]
@[simp] theorem N4{α:Type}(xs:List α):atP xs 0=xs[0]?:=uM xs 0
@[simp] theorem Od{α:Type}(xs:List α):atP xs 1=xs[1]?:=uM xs 1
@[simp] theorem MC{α:Type}(xs:List α)(n:Nat):atP xs (no_index (OfNat.ofNat n:Int))=xs[n]?:=uM xs n
theorem E3{α:Type}(xs:List α)(i:Int)(h:0<=i):atP xs i=xs[i.toNat]?:=by
 have:=uM xs i.toNat
 rwa [Int.toNat_of_nonneg h]at this
@[simp] theorem N7(T:String)(ma:ag->OE)(ρ:ag):mIs T ma ρ=(ma ρ).bind fun a=>oE ((isP T a.pv).map fun b=>.sh (.bl b)):=rfl
@[simp] theorem KU(ns:List Int):tQ (ns.map .int)=some ns:=by
  induction ns with
  |nil=>rfl
  |cons n ns ih=>show(tQ (ns.map .int)).map (n ::·)=_;rw[ih];rfl
@[simp] theorem uk(ns:List Bool):qb (ns.map .bl)=some ns:=by
  induction ns with
  |nil=>rfl
  |cons n ns ih=>show(qb (ns.map .bl)).map (n ::·)=_;rw[ih];rfl
@[simp] theorem Kq(n:Nat):(dE n).length=n:=by simp[dE]
theorem jN{me:ag->OE}{ρ:ag}{α:Type}{g:α->PV}{f:α->PV}(l:List α)(h:∀ a∈l,me (ρ++[some (.sh (g a))])=.ok (.sh (f a))):dg me ρ (l.map g)=.ok (l.map f):=by
 induction l with
 |nil=>rfl
 | cons a l ih=>
   have h1:=h a (List.mem_cons_self)
   have h2:=ih fun b hb=>h b (List.mem_cons_of_mem _ hb)
   simp[dg,h1,h2]
end L2.P
namespace L2.P
open PySem PySem.Spec PyProof.Rows L2 L2.E
mutual
def Rep(K:PySem.W.Frag)(S:Hp):PV->V->Prop
 |.non,v=>v=.non
 |.bl b,v=>v=.bl b
 |.int i,v=>v=.int i
 |.str s,v=>v=.str s
 |.lst xs,v=>∃ p vs,v=.ref p /\ SqL K S p vs /\ bu K S xs vs
 |.tup xs,v=>∃ p vs,v=.ref p /\ SqT K S p vs /\ bu K S xs vs
def bu(K:PySem.W.Frag)(S:Hp):List PV->List V->Prop
 |[],vs=>vs=[]
 |x ::xs,vs=>∃ v r,vs=v ::r /\ Rep K S x v /\ bu K S xs r
end
theorem _root_.L2.aK.tup{K:PySem.W.Frag}(e:aK H H')(h:SqT K H a xs):SqT K H' a xs:=by
 rcases h with(h|⟨o,h⟩)|h
 . exact .inl (.inl (e _ _ h))
 . exact .inl (.inr ⟨o,e _ _ h⟩)
 . exact .inr h
section
variable{K:PySem.W.Frag}{S S':Hp}
mutual
theorem Rep.mono(s:aK S S'):∀{x:PV} {v:V},Rep K S x v->Rep K S' x v
 |.non,_,h=>by unfold Rep at h ⊢;exact h
 |.bl _,_,h=>by unfold Rep at h ⊢;exact h
 |.int _,_,h=>by unfold Rep at h ⊢;exact h
 |.str _,_,h=>by unfold Rep at h ⊢;exact h
 | .lst _,_,h=>by
   unfold Rep at h ⊢
   obtain⟨p,vs,e,q,r⟩:=h
   exact⟨p,vs,e,aK.seq s q,bu.mono s r⟩
 | .tup _,_,h=>by
   unfold Rep at h ⊢
   obtain⟨p,vs,e,q,r⟩:=h
   exact⟨p,vs,e,aK.tup s q,bu.mono s r⟩
theorem bu.mono(s:aK S S'):∀{xs:List PV} {vs:List V},bu K S xs vs->bu K S' xs vs
 |[],_,h=>by unfold bu at h ⊢;exact h
 | _ ::_,_,h=>by
   unfold bu at h ⊢
   obtain⟨v,r,e,q,t⟩:=h
   exact⟨v,r,e,Rep.mono s q,bu.mono s t⟩
end
theorem bu.nil:bu K S [] []:=by unfold bu;rfl
theorem bu.cons(h:Rep K S x v)(t:bu K S xs vs):bu K S (x ::xs) (v ::vs):=by unfold bu;exact⟨v,vs,rfl,h,t⟩
theorem bu.nil_inv(h:bu K S [] vs):vs=[]:=by unfold bu at h;exact h
theorem bu.cons_inv(h:bu K S (x ::xs) vs):∃ v r,vs=v ::r /\ Rep K S x v /\ bu K S xs r:=by unfold bu at h;exact h
theorem bu.append(h:bu K S xs vs)(t:bu K S ys us):bu K S (xs++ys) (vs++us):=by
 induction xs generalizing vs with
 |nil=>rw[h.nil_inv];exact t
 | cons x xs ih=>
   obtain⟨v,r,rfl,q,h'⟩:=h.cons_inv;exact .cons q (ih h')
theorem bu.length{xs:List PV}{vs:List V}(h:bu K S xs vs):vs.length=xs.length:=by
 induction xs generalizing vs with
 |nil=>rw[h.nil_inv];rfl
 | cons x xs ih=>
   obtain⟨v,r,rfl,q,h'⟩:=h.cons_inv;simp[ih h']
theorem bu.get(h:bu K S xs vs):∀{i:Nat} {x:PV},xs[i]?=some x->∃ v,vs[i]?=some v /\ Rep K S x v:=by
 induction xs generalizing vs with
 |nil=>intro i x e;simp at e
 | cons y xs ih=>
   obtain⟨v,r,rfl,q,h'⟩:=h.cons_inv;intro i x e
   cases i with
   |zero=>simp at e;subst e;exact⟨v,rfl,q⟩
   |succ i=>simp at e;obtain⟨u,e1,e2⟩:=ih h' e;exact⟨u,by simpa using e1,e2⟩
theorem bu.My{xs:List PV}{vs:List V}(h:bu K S xs vs){i:Nat}{v:V}(e:vs[i]?=some v):∃ x,xs[i]?=some x /\ Rep K S x v:=by
 have hi:i<xs.length:=by rw[<- h.length];exact(List.getElem?_eq_some_iff.mp e).1
 obtain⟨u,e1,e2⟩:=h.get (i:=i) (x:=xs[i]) (by simp[hi]);rw[e]at e1;cases e1
 exact⟨_,by simp[hi],e2⟩
theorem bu.take{xs:List PV}{vs:List V}(h:bu K S xs vs):∀ n,bu K S (xs.take n) (vs.take n):=by
 induction xs generalizing vs with
 |nil=>intro n;rw[h.nil_inv];simpa using bu.nil
 | cons y xs ih=>
   obtain⟨v,r,rfl,q,h'⟩:=h.cons_inv;intro n
   cases n with
   |zero=>exact .nil
   |succ n=>exact .cons q (ih h' n)
theorem bu.drop{xs:List PV}{vs:List V}(h:bu K S xs vs):∀ n,bu K S (xs.drop n) (vs.drop n):=by
 induction xs generalizing vs with
 |nil=>intro n;rw[h.nil_inv];simpa using bu.nil
 | cons y xs ih=>
   obtain⟨v,r,rfl,q,h'⟩:=h.cons_inv;intro n
   cases n with
   |zero=>exact .cons q h'
   |succ n=>exact ih h' n
theorem bu.ints{ns:List Int}:bu K S (ns.map .int) (ns.map V.int):=by
 induction ns with
 |nil=>exact .nil
 |cons n ns ih=>exact .cons (by unfold Rep;rfl) ih
theorem bu.zK{ns:List Int}(h:bu K S (ns.map .int) vs):vs=ns.map V.int:=by
 induction ns generalizing vs with
 |nil=>exact h.nil_inv
 | cons n ns ih=>
   obtain⟨v,r,rfl,q,h'⟩:=h.cons_inv;unfold Rep at q;rw[ih h',q];rfl
end
def oW(K:PySem.W.Frag)(cls:String->Option Addr)(S H:Hp)(c:String)(fs:XF)(a C:Addr):Prop:=
 cls c=some C /\ ∃ dx,H a=some (Ai a C dx) /\ (fs=[] \/ ∃ d us,dx=some d /\ H d=some (.xd us) /\ fs.map (·.1)=us.map (·.1) /\ bu K S (fs.map (·.2)) (us.map (·.2)))
def isX:HO->Bool
 |.ext _=>true
 |.xd _=>true
 |_=>false
def tR(K:PySem.W.Frag)(S:Hp)(kvs:List (Int×PV))(us:List (Key×V)):Prop:=Paired (fun (p:Int×PV) (q:Key×V)=>q.1=Sum.inl p.1 /\ Rep K S p.2 q.2) kvs us
def zo(K:PySem.W.Frag)(S:Hp)(kvs:List (List Int×PV))(us:List (List Key×V)):Prop:=Paired (fun (p:List Int×PV) (q:List Key×V)=>q.1=p.1.map Sum.inl /\ Rep K S p.2 q.2) kvs us
theorem tR.mono{K:PySem.W.Frag}(s:aK S S'):∀{kvs:List (Int×PV)} {us:List (Key×V)},tR K S kvs us->tR K S' kvs us
 |_,_,.nil=>.nil
 |_,_,.cons h t=>.cons ⟨h.1,Rep.mono s h.2⟩ (tR.mono s t)
theorem zo.mono{K:PySem.W.Frag}(s:aK S S'):∀{kvs:List (List Int×PV)} {us:List (List Key×V)},zo K S kvs us->zo K S' kvs us
 |_,_,.nil=>.nil
 |_,_,.cons h t=>.cons ⟨h.1,Rep.mono s h.2⟩ (zo.mono s t)
mutual
def bx(K:PySem.W.Frag)(cls:String->Option Addr)(S H:Hp):OV->V->List Addr->Prop
 |.sh x,v,fp=>fp=[] /\ Rep K S x v
 |.ol ts,v,fp=>∃ p vs f,v=.ref p /\ H p=some (.lst vs) /\ fp=p ::f /\ bB K cls S H ts vs f
 |.ob c ks ts,v,fp=>∃ p C dx us f,v=.ref p /\ cls c=some C /\ H p=some (.ins C dx us) /\ H dx=some (.own p) /\ us.map (·.1)=ks /\ fp=p ::dx ::f /\ bB K cls S H ts (us.map (·.2)) f
 |.di kvs,v,fp=>∃ p us,v=.ref p /\ H p=some (.dK us) /\ fp=[p] /\ tR K S kvs us
 |.dt kvs,v,fp=>∃ p us,v=.ref p /\ H p=some (.dT us) /\ fp=[p] /\ zo K S kvs us
def bB(K:PySem.W.Frag)(cls:String->Option Addr)(S H:Hp):List OV->List V->List Addr->Prop
 |[],vs,fp=>vs=[] /\ fp=[]
 |t ::ts,vs,fp=>∃ v r f1 f2,vs=v ::r /\ fp=f1++f2 /\ bx K cls S H t v f1 /\ bB K cls S H ts r f2
end
def uK(K:PySem.W.Frag)(cls:String->Option Addr)(Av G S H:Hp)(i:Nat):Sl->V->List Addr->Prop
 |.sh x,v,fp=>fp=[] /\ Rep K S x v
 |.ow xs,v,fp=>∃ p vs,v=.ref p /\ fp=[p] /\ G p=none /\ S p=none /\ H p=some (.lst vs) /\ bu K S xs vs
 |.ex c fs,v,fp=>fp=[] /\ ∃ a C,v=.ref a /\ oW K cls S H c fs a C
 |.tr io t,v,fp=>bx K cls S H t v fp /\ fp.Nodup /\ (∀ a∈fp,G a=none /\ S a=none) /\ (io=true->Av i=some (.lst [v]))
 |.bo t,v,fp=>fp=[] /\ ∃ f,bx K cls S G t v f
def Il(K:PySem.W.Frag)(cls:String->Option Addr)(G S H:Hp):Sl->V->Prop
 |.sh x,v=>Rep K S x v
 |.ow xs,v=>∃ p vs,v=.ref p /\ G p=none /\ S p=none /\ H p=some (.lst vs) /\ bu K S xs vs
 |.ex c fs,v=>∃ a C,v=.ref a /\ oW K cls S H c fs a C
 |_,_=>True
def mZ(K:PySem.W.Frag)(B S H:Hp):RV->V->Prop
 |.sh x,v=>Rep K S x v
 |.fr xs,v=>∃ p vs,v=.ref p /\ B p=none /\ S p=none /\ H p=some (.lst vs) /\ bu K S xs vs
 |.al xs,v=>∃ p vs,v=.ref p /\ SqL K H p vs /\ bu K S xs vs
def RdV(K:PySem.W.Frag)(S H:Hp):PV->V->Prop
 |.lst xs,v=>∃ p vs,v=.ref p /\ SqL K H p vs /\ bu K S xs vs
 |x,v=>Rep K S x v
structure SRF(K:PySem.W.Frag)(cls:String->Option Addr)(Av G S₀:Hp)(ρ:ag)(σ:St)(S H:Hp)(F:Nat->List Addr):Prop where
 gh:aK G H
 s0:aK S₀ S
 sh:aK S H
 new:∀ b,S b≠none->S₀ b≠none \/ G b=none
 own:∀(i:Nat) (s:Sl),ρ[i]?=some (some s)->∃ v,σ[i]?=some (some v) /\ uK K cls Av G S H i s v (F i)
 apart:∀ i j a,a∈F i->a∈F j->i=j
 live:∀ i a,a∈F i->(∃ o,H a=some o /\ isX o=false) /\ G a=none /\ S a=none
 len:ρ.length=σ.length
def SR(K:PySem.W.Frag)(cls:String->Option Addr)(Av G S₀:Hp)(ρ:ag)(σ:St)(S H:Hp):Prop:=∃ F,SRF K cls Av G S₀ ρ σ S H F
section
variable{K:PySem.W.Frag}{cls:String->Option Addr}{Av G S₀ S S' H H' B:Hp}{ρ:ag}{σ:St}{F:Nat->List Addr}
theorem SR.gh(I:SR K cls Av G S₀ ρ σ S H):aK G H:=let ⟨_,J⟩:=I;J.gh
theorem SR.s0(I:SR K cls Av G S₀ ρ σ S H):aK S₀ S:=let ⟨_,J⟩:=I;J.s0
theorem SR.sh(I:SR K cls Av G S₀ ρ σ S H):aK S H:=let ⟨_,J⟩:=I;J.sh
theorem SR.new(I:SR K cls Av G S₀ ρ σ S H):∀ b,S b≠none->S₀ b≠none \/ G b=none:=let ⟨_,J⟩:=I;J.new
theorem SR.len(I:SR K cls Av G S₀ ρ σ S H):ρ.length=σ.length:=let ⟨_,J⟩:=I;J.len
theorem uK.one(h:uK K cls Av G S H i s v fp):Il K cls G S H s v:=by
 cases s with
 |sh x=>exact h.2
 |ow xs=>obtain⟨p,vs,e,_,r⟩:=h;exact⟨p,vs,e,r⟩
 |ex c fs=>exact h.2
 |tr io t=>trivial
 |bo t=>trivial
theorem SR.good(I:SR K cls Av G S₀ ρ σ S H)(i:Nat)(s:Sl)(e:ρ[i]?=some (some s)):∃ v,σ[i]?=some (some v) /\ Il K cls G S H s v:=by
 obtain⟨F,J⟩:=I;obtain⟨v,e1,r⟩:=J.own i s e
 exact⟨v,e1,r.one⟩
theorem oW.mono(h:oW K cls S H c fs a C)(s:aK S S')(g:aK H H'):oW K cls S' H' c fs a C:=by
 obtain⟨h1,dx,h2,h3⟩:=h
 refine⟨h1,dx,g _ _ h2,?_⟩
 rcases h3 with h3|⟨d,us,e1,e2,e3,e4⟩
 . exact .inl h3
 . exact .inr ⟨d,us,e1,g _ _ e2,e3,e4.mono s⟩
theorem oW.L5(h:oW K cls S H c fs a C)(s:aK S S')(g:∀ b o,isX o=true->H b=some o->H' b=some o):oW K cls S' H' c fs a C:=by
 obtain⟨h1,dx,h2,h3⟩:=h
 refine⟨h1,dx,g _ _ rfl h2,?_⟩
 rcases h3 with h3|⟨d,us,e1,e2,e3,e4⟩
 . exact .inl h3
 . exact .inr ⟨d,us,e1,g _ _ rfl e2,e3,e4.mono s⟩
mutual
theorem bx.mono(s:aK S S'):∀{t:OV} {v:V} {fp:List Addr},bx K cls S H t v fp->(∀ a∈fp,∀ o,H a=some o->H' a=some o)->bx K cls S' H' t v fp
 |.sh _,_,_,h,_=>by unfold bx at h ⊢;exact⟨h.1,Rep.mono s h.2⟩
 | .ol _,_,_,h,g=>by
   unfold bx at h ⊢
   obtain⟨p,vs,f,e,q,e2,r⟩:=h;subst e2
   exact⟨p,vs,f,e,g p (by simp) _ q,rfl,bB.mono s r fun a ha=>g a (by simp[ha])⟩
 | .ob _ _ _,_,_,h,g=>by
   unfold bx at h ⊢
   obtain⟨p,C,dx,us,f,e,c,q,q2,k,e2,r⟩:=h;subst e2
   exact⟨p,C,dx,us,f,e,c,g p (by simp) _ q,g dx (by simp) _ q2,k,rfl,bB.mono s r fun a ha=>g a (by simp[ha])⟩
 | .di _,_,_,h,g=>by
   unfold bx at h ⊢
   obtain⟨p,us,e,q,e2,r⟩:=h;subst e2
   exact⟨p,us,e,g p (by simp) _ q,rfl,r.mono s⟩
 | .dt _,_,_,h,g=>by
   unfold bx at h ⊢
   obtain⟨p,us,e,q,e2,r⟩:=h;subst e2
   exact⟨p,us,e,g p (by simp) _ q,rfl,r.mono s⟩
theorem bB.mono(s:aK S S'):∀{ts:List OV} {vs:List V} {fp:List Addr},bB K cls S H ts vs fp->(∀ a∈fp,∀ o,H a=some o->H' a=some o)->bB K cls S' H' ts vs fp
 |[],_,_,h,_=>by unfold bB at h ⊢;exact h
 | _ ::_,_,_,h,g=>by
   unfold bB at h ⊢
   obtain⟨v,r,f1,f2,e,e2,q,t⟩:=h;subst e2
   exact⟨v,r,f1,f2,e,rfl,bx.mono s q fun a ha=>g a (List.mem_append_left _ ha),bB.mono s t fun a ha=>g a (List.mem_append_right _ ha)⟩
end
mutual
theorem bx.live:∀{t:OV} {v:V} {fp:List Addr},bx K cls S H t v fp->∀ a∈fp,∃ o,H a=some o /\ isX o=false
 |.sh _,_,_,h,a,ha=>by unfold bx at h;rw[h.1]at ha;cases ha
 | .ol _,_,_,h,a,ha=>by
   unfold bx at h;obtain⟨p,vs,f,e,q,e2,r⟩:=h;subst e2
   rcases List.mem_cons.mp ha with z|z
   . subst z;exact⟨_,q,rfl⟩
   . exact bB.live r a z
 | .ob _ _ _,_,_,h,a,ha=>by
   unfold bx at h;obtain⟨p,C,dx,us,f,e,c,q,q2,k,e2,r⟩:=h;subst e2
   rcases List.mem_cons.mp ha with z|z
   . subst z;exact⟨_,q,rfl⟩
   . rcases List.mem_cons.mp z with z|z
     . subst z;exact⟨_,q2,rfl⟩
     . exact bB.live r a z
 | .di _,_,_,h,a,ha=>by
   unfold bx at h;obtain⟨p,us,e,q,e2,r⟩:=h;subst e2
   have z:a=p:=by simpa using ha
   subst z
   exact⟨_,q,rfl⟩
 | .dt _,_,_,h,a,ha=>by
   unfold bx at h;obtain⟨p,us,e,q,e2,r⟩:=h;subst e2
   have z:a=p:=by simpa using ha
   subst z
   exact⟨_,q,rfl⟩
theorem bB.live:∀{ts:List OV} {vs:List V} {fp:List Addr},bB K cls S H ts vs fp->∀ a∈fp,∃ o,H a=some o /\ isX o=false
 |[],_,_,h,a,ha=>by unfold bB at h;rw[h.2]at ha;cases ha
 | _ ::_,_,_,h,a,ha=>by
   unfold bB at h;obtain⟨v,r,f1,f2,e,e2,q,t⟩:=h;subst e2
   rcases List.mem_append.mp ha with z|z
   . exact bx.live q a z
   . exact bB.live t a z
end
theorem uK.mono(h:uK K cls Av G S H i sl v fp)(s:aK S S')(g:∀ a∈fp,∀ o,H a=some o->H' a=some o)(x:∀ b o,isX o=true->H b=some o->H' b=some o)(n:∀ a∈fp,S' a=none):uK K cls Av G S' H' i sl v fp:=by
 cases sl with
 |sh y=>exact⟨h.1,Rep.mono s h.2⟩
 | ow xs=>
   obtain⟨p,vs,e,e2,h1,h2,h3,h4⟩:=h;subst e2
   exact⟨p,vs,e,rfl,h1,n p (by simp),g p (by simp) _ h3,h4.mono s⟩
 |ex c fs=>obtain⟨e,a,C,e2,q⟩:=h;exact⟨e,a,C,e2,q.L5 s x⟩
 |tr io t=>exact⟨h.1.mono s g,h.2.1,fun a ha=>⟨(h.2.2.1 a ha).1,n a ha⟩,h.2.2.2⟩
 |bo t=>obtain⟨e,f,r⟩:=h;exact⟨e,f,r.mono s fun _ _ _ z=>z⟩
theorem RdV.mono(h:RdV K S H x v)(s:aK S S')(g:aK H H'):RdV K S' H' x v:=by
 cases x with
 |lst xs=>obtain⟨p,vs,e,q,r⟩:=h;exact⟨p,vs,e,aK.seq g q,r.mono s⟩
 |non=>exact Rep.mono s h
 |bl b=>exact Rep.mono s h
 |int i=>exact Rep.mono s h
 |str x=>exact Rep.mono s h
 |tup xs=>exact Rep.mono s h
theorem Rep.rd(h:Rep K S x v)(g:aK S H):RdV K S H x v:=by
 cases x with
 |lst xs=>unfold Rep at h;obtain⟨p,vs,e,q,r⟩:=h;exact⟨p,vs,e,aK.seq g q,r⟩
 |non=>exact h
 |bl b=>exact h
 |int i=>exact h
 |str x=>exact h
 |tup xs=>exact h
theorem mZ.rd{r:RV}(h:mZ K B S H r v)(g:aK S H):RdV K S H r.pv v:=by
 cases r with
 |sh x=>exact Rep.rd h g
 |fr xs=>obtain⟨p,vs,e,_,_,q,r⟩:=h;exact⟨p,vs,e,SqL.new q,r⟩
 |al xs=>exact h
theorem SRF.change(I:SRF K cls Av G S₀ ρ σ S H F)(gh:aK G H')(s:aK S S')(sh:aK S' H')(new:∀ b,S' b≠none->S₀ b≠none \/ G b=none)
  (g:∀ i a,a∈F i->∀ o,H a=some o->H' a=some o) (x:∀ b o,isX o=true->H b=some o->H' b=some o) (n:∀ i a,a∈F i->S' a=none):SRF K cls Av G S₀ ρ σ S' H' F where
 gh:=gh
 s0:=I.s0.trans s
 sh:=sh
 new:=new
 own:=fun i t e=>by
  obtain⟨v,e1,r⟩:=I.own i t e
  exact⟨v,e1,r.mono s (fun a ha=>g i a ha) x fun a ha=>n i a ha⟩
 apart:=I.apart
 live:=fun i a ha=>by
  obtain⟨⟨o,h1,h2⟩,h3,_⟩:=I.live i a ha
  exact⟨⟨o,g i a ha o h1,h2⟩,h3,n i a ha⟩
 len:=I.len
theorem SRF.same(I:SRF K cls Av G S₀ ρ σ S H F)(g:aK H H'):SRF K cls Av G S₀ ρ σ S H' F:=
 I.change (I.gh.trans g) (aK.refl _) (I.sh.trans g) I.new (fun _ _ _ o e=>g _ _ e) (fun _ _ _ e=>g _ _ e) fun i a ha=>(I.live i a ha).2.2
theorem SR.same(I:SR K cls Av G S₀ ρ σ S H)(g:aK H H'):SR K cls Av G S₀ ρ σ S H':=let ⟨F,J⟩:=I;⟨F,J.same g⟩
theorem set_inv{α:Type}{l:List (Option α)}{x:Option α}{s:α}(h:(l.set i x)[j]?=some (some s)):(j=i /\ x=some s /\ i<l.length) \/ (j≠i /\ l[j]?=some (some s)):=by
 by_cases e:j=i
 . subst e;rw[List.getElem?_set]at h;simp only[if_true]at h;split at h
   . rename_i hl;exact .inl ⟨rfl,Option.some.inj h,hl⟩
   . cases h
 . rw[List.getElem?_set_ne (Ne.symm e)]at h;exact .inr ⟨e,h⟩
theorem Lz{α:Type}{l:List (Option α)}{x:Option α}(h:i<l.length):(l.set i x)[i]?=some x:=by
 rw[List.getElem?_set];simp[h]
def oO(F:Nat->List Addr)(i:Nat)(fp:List Addr):Nat->List Addr:=fun j=>if j=i then fp else F j
theorem jh:oO F i fp i=fp:=by unfold oO;rw[if_pos rfl]
theorem fA(h:j≠i):oO F i fp j=F j:=by unfold oO;rw[if_neg h]
theorem SRF.put(I:SRF K cls Av G S₀ ρ σ S H F)(h:∀ t,s=some t->∃ v,u=some v /\ uK K cls Av G S H i t v fp)
  (hl:∀ a∈fp,(∃ o,H a=some o /\ isX o=false) /\ G a=none /\ S a=none) (ap:∀ j a,j≠i->a∈fp->a∉F j):SRF K cls Av G S₀ (ρ.set i s) (σ.set i u) S H (oO F i fp) where
 gh:=I.gh
 s0:=I.s0
 sh:=I.sh
 new:=I.new
 own:=fun j t e=>by
  rcases set_inv e with⟨rfl,e1,hl⟩|⟨ne,e1⟩
  . obtain⟨v,e2,r⟩:=h t e1
    exact⟨v,by rw[Lz (by rw[<- I.len];exact hl),e2],by rw[jh];exact r⟩
  . rw[List.getElem?_set_ne (Ne.symm ne),fA ne];exact I.own j t e1
 apart:=fun j k a h1 h2=>by
  by_cases ej:j=i
  . by_cases ek:k=i
    . rw[ej,ek]
    . subst ej;rw[jh]at h1;rw[fA ek]at h2;exact absurd h2 (ap k a ek h1)
  . by_cases ek:k=i
    . subst ek;rw[jh]at h2;rw[fA ej]at h1;exact absurd h1 (ap j a ej h2)
    . rw[fA ej]at h1;rw[fA ek]at h2;exact I.apart j k a h1 h2
 live:=fun j a ha=>by
  by_cases ej:j=i
  . subst ej;rw[jh]at ha;exact hl a ha
  . rw[fA ej]at ha;exact I.live j a ha
 len:=by simp[I.len]
theorem SR.Ca(I:SR K cls Av G S₀ ρ σ S H)(h:Rep K S x v):SR K cls Av G S₀ (ρ.set i (some (.sh x))) (σ.set i (some v)) S H:=by
 obtain⟨F,J⟩:=I
 exact⟨_,J.put (fp:=[]) (fun t e=>by cases e;exact⟨v,rfl,rfl,h⟩) (fun a ha=>nomatch ha) fun j a _ ha=>nomatch ha⟩
theorem SR.LN(I:SR K cls Av G S₀ ρ σ S H):SR K cls Av G S₀ (ρ.set i none) (σ.set i v) S H:=by
 obtain⟨F,J⟩:=I
 exact⟨_,J.put (fp:=[]) (fun t e=>nomatch e) (fun a ha=>nomatch ha) fun j a _ ha=>nomatch ha⟩
theorem lF{α:Type}{l:List α}{x:α}(h:l[i]?=some x):l.set i x=l:=by
 apply List.ext_getElem?;intro j
 by_cases e:i=j
 . subst e;rw[List.getElem?_set,if_pos rfl,if_pos (List.getElem?_eq_some_iff.mp h).1,h]
 . rw[List.getElem?_set_ne e]
theorem SR.drop(I:SR K cls Av G S₀ ρ σ S H):SR K cls Av G S₀ (ρ.set i none) σ S H:=by
 cases e:σ[i]? with
 |some v=>have:=I.LN (i:=i) (v:=v);rwa [lF e]at this
 | none=>
   have h1:σ.length<=i:=List.getElem?_eq_none_iff.mp e
   rw[List.set_eq_of_length_le (by rw[I.len];exact h1)];exact I
theorem SR.mut(I:SR K cls Av G S₀ ρ σ S H)(hi:ρ[i]?=some (some (.ow xs)))(hv:σ[i]?=some (some (.ref p)))(hr:bu K S ys us):SR K cls Av G S₀ (ρ.set i (some (.ow ys))) σ S (upd H p (.lst us)):=by
 obtain⟨F,J⟩:=I;obtain⟨v,e1,q,vs,e2,e3,hG,hS,hH,_⟩:=J.own i _ hi;rw[hv]at e1;cases e1;cases e2
 have J1:SRF K cls Av G S₀ (ρ.set i none) (σ.set i none) S H (oO F i []):=J.put (fun t e=>nomatch e) (fun a ha=>nomatch ha) fun j a _ ha=>nomatch ha
 have off:∀ j a,a∈oO F i [] j->a≠p:=fun j a ha z=>by
  by_cases ej:j=i
  . subst ej;rw[jh]at ha;cases ha
  . rw[fA ej]at ha;exact ej (J.apart j i a ha (by rw[e3,z];simp))
 have J2:=J1.change (H':=upd H p (.lst us)) (J.gh.upd hG) (aK.refl _) (J.sh.upd hS) J.new (fun j a ha o h=>by rw[bL (off j a ha)];exact h)
  (fun b o hx h=>by
    rw[bL]
    . exact h
    . intro z;rw[z,hH]at h;cases h;cases hx)
  fun j a ha=>(J1.live j a ha).2.2
 have J3:=J2.put (i:=i) (s:=some (.ow ys)) (u:=some (.ref p)) (fp:=[p]) (fun t e=>by cases e;exact⟨_,rfl,p,us,rfl,rfl,hG,hS,bQ,hr⟩) (fun a ha=>by
  have z:a=p:=by simpa using ha
  subst z
  exact⟨⟨_,bQ,rfl⟩,hG,hS⟩) fun j a hj ha hz=>by
   have z:a=p:=by simpa using ha
   exact off j a hz z
 rw[List.set_set,List.set_set,lF hv]at J3
 exact⟨_,J3⟩
theorem SR.LL(I:SR K cls Av G S₀ ρ σ S H)(hi:ρ[i]?=some (some (.ow xs))):∃ S',aK S S' /\ SR K cls Av G S₀ (ρ.set i (some (.sh (.lst xs)))) σ S' H:=by
 obtain⟨F,J⟩:=I;obtain⟨v,hv,p,vs,e2,e3,hG,hS,hH,hr⟩:=J.own i _ hi;subst e2
 have J1:SRF K cls Av G S₀ (ρ.set i none) (σ.set i none) S H (oO F i []):=J.put (fun t e=>nomatch e) (fun a ha=>nomatch ha) fun j a _ ha=>nomatch ha
 have off:∀ j a,a∈oO F i [] j->a≠p:=fun j a ha z=>by
  by_cases ej:j=i
  . subst ej;rw[jh]at ha;cases ha
  . rw[fA ej]at ha;exact ej (J.apart j i a ha (by rw[e3,z];simp))
 have J2:=J1.change (S':=upd S p (.lst vs)) (H':=H) J.gh (aK.new hS) (fun b u h=>by
   by_cases e:b=p
   . subst e;rw[bQ]at h;cases h;exact hH
   . rw[bL e]at h;exact J.sh b u h) (fun b h=>by
   by_cases e:b=p
   . subst e;exact .inr hG
   . rw[bL e]at h;exact J.new b h) (fun _ _ _ _ h=>h) (fun _ _ _ h=>h) fun j a ha=>by
     rw[bL (off j a ha)];exact(J1.live j a ha).2.2
 have J3:=J2.put (i:=i) (s:=some (.sh (.lst xs))) (u:=some (.ref p)) (fp:=[]) (fun t e=>by
  cases e
  refine⟨_,rfl,rfl,?_⟩
  unfold Rep
  exact⟨p,vs,rfl,SqL.new bQ,hr.mono (aK.new hS)⟩) (fun a ha=>nomatch ha) fun j a _ ha=>nomatch ha
 rw[List.set_set,List.set_set,lF hv]at J3
 exact⟨_,aK.new hS,_,J3⟩
end
structure bq(S H S' H':Hp):Prop where
 s:aK S S'
 g:aK H H'
 sh:aK S' H'
 new:∀ b,S' b≠none->S b≠none \/ H b=none
theorem bq.refl(h:aK S H):bq S H S H:=⟨aK.refl _,aK.refl _,h,fun _ z=>.inl z⟩
theorem bq.trans(a:bq S H S1 H1)(b:bq S1 H1 S2 H2):bq S H S2 H2:=
 ⟨a.s.trans b.s,a.g.trans b.g,b.sh,fun x h=>by
   rcases b.new x h with z|z
   . exact a.new x z
   . exact .inr (a.g.free z)⟩
theorem SRF.grow{K:PySem.W.Frag}{cls:String->Option Addr}{F:Nat->List Addr}(I:SRF K cls Av G S₀ ρ σ S H F)(w:bq S H S' H'):SRF K cls Av G S₀ ρ σ S' H' F:=
 I.change (I.gh.trans w.g) w.s w.sh (fun b h=>by
  rcases w.new b h with z|z
  . exact I.new b z
  . exact .inr (I.gh.free z)) (fun i a _ o h=>w.g _ _ h) (fun b o _ h=>w.g _ _ h) fun i a ha=>by
    obtain⟨⟨o,h1,_⟩,_,h3⟩:=I.live i a ha
    cases q:S' a with
    |none=>rfl
    | some o=>
      rcases w.new a (by rw[q];simp)with z|z
      . exact absurd h3 z
      . rw[h1]at z;cases z
theorem SR.grow{K:PySem.W.Frag}{cls:String->Option Addr}(I:SR K cls Av G S₀ ρ σ S H)(w:bq S H S' H'):SR K cls Av G S₀ ρ σ S' H':=let ⟨F,J⟩:=I;⟨F,J.grow w⟩
theorem SR.L8{K:PySem.W.Frag}{cls:String->Option Addr}{ρ:ag}{σ:St}(I:SR K cls Av G S₀ ρ σ S H)(w:bq S H S' H')(h:mZ K H S' H' (.fr xs) v):SR K cls Av G S₀ (ρ.set i (some (.ow xs))) (σ.set i (some v)) S' H':=by
 obtain⟨F,J⟩:=I;obtain⟨p,vs,rfl,hB,hS,hH,hr⟩:=h;have hG:=J.gh.free hB
 refine⟨_,(J.grow w).put (fp:=[p]) (fun t e=>by cases e;exact⟨_,rfl,p,vs,rfl,rfl,hG,hS,hH,hr⟩) (fun a ha=>?_) fun j a _ ha hz=>?_⟩
 . have z:a=p:=by simpa using ha
   subst z
   exact⟨⟨_,hH,rfl⟩,hG,hS⟩
 . have z:a=p:=by simpa using ha
   subst z;obtain⟨⟨o,h1,_⟩,_⟩:=J.live j a hz;rw[hB]at h1;cases h1
theorem bq.heap(h:aK S H)(hp:H p=none):bq S H S (upd H p o):=⟨aK.refl _,aK.new hp,h.trans (aK.new hp),fun _ z=>.inl z⟩
theorem bq.both(h:aK S H)(hp:H p=none):bq S H (upd S p o) (upd H p o):=by
 have hS:=h.free hp
 refine⟨aK.new hS,aK.new hp,fun b u z=>?_,fun b z=>?_⟩
 . by_cases e:b=p
   . subst e;rw[bQ]at z ⊢;exact z
   . rw[bL e]at z ⊢;exact h b u z
 . by_cases e:b=p
   . subst e;exact .inr hp
   . rw[bL e]at z;exact .inl z
section
variable(K:PySem.W.Frag)(cls:String->Option Addr)(W:XW)
def lU(σ:St)(S H:Hp)(Q:VK):OE->Prop
 |.ok r=>∀ v S' H',bq S H S' H'->mZ K H S' H' r v->Q v H'
 |.exc c fs=>∀ a C S' H',bq S H S' H'->oW K cls S' H' c fs a C->W (.ref C) (some a) σ H'
 |.bad=>False
def uC(σ:St)(S H:Hp)(Q:Bool->Hp->Prop):OT->Prop
 |.ok b=>∀ S' H',bq S H S' H'->Q b H'
 |.exc c fs=>∀ a C S' H',bq S H S' H'->oW K cls S' H' c fs a C->W (.ref C) (some a) σ H'
 |.bad=>False
def xa(σ:St)(S H:Hp)(Q:List V->Hp->Prop):OA->Prop
 |.ok xs=>∀ vs S' H',bq S H S' H'->bu K S' xs vs->Q vs H'
 |.exc c fs=>∀ a C S' H',bq S H S' H'->oW K cls S' H' c fs a C->W (.ref C) (some a) σ H'
 |.bad=>False
def jv(Av G S₀:Hp)(S:Hp)(D:Ends):OS->Prop
 |.nx ρ=>∀ σ' S' H',SR K cls Av G S₀ ρ σ' S' H'->aK S S'->D.nx σ' H'
 |.bk ρ=>∀ σ' S' H',SR K cls Av G S₀ ρ σ' S' H'->aK S S'->D.bk σ' H'
 |.ct ρ=>∀ σ' S' H',SR K cls Av G S₀ ρ σ' S' H'->aK S S'->D.ct σ' H'
 |.rt ρ r=>∀ v σ' S' H',SR K cls Av G S₀ ρ σ' S' H'->aK S S'->mZ K G S' H' r v->D.rt v H'
 |.exc ρ c fs=>∀ a C σ' S' H',SR K cls Av G S₀ ρ σ' S' H'->aK S S'->oW K cls S' H' c fs a C->W (.ref C) (some a) σ' H'
 |.bad=>False
def JE(te:TE)(m:ag->OE):Prop:=∀ Av G S₀ ρ σ S H Q,SR K cls Av G S₀ ρ σ S H->lU K cls W σ S H Q (m ρ)->te σ H Q
def JT(te:TT)(m:ag->OT):Prop:=∀ Av G S₀ ρ σ S H Q,SR K cls Av G S₀ ρ σ S H->uC K cls W σ S H Q (m ρ)->te σ H Q
def JA(te:TA)(m:ag->OA):Prop:=∀ Av G S₀ ρ σ S H Q,SR K cls Av G S₀ ρ σ S H->xa K cls W σ S H Q (m ρ)->te σ H Q
def JS(ts:TS)(m:ag->OS):Prop:=∀ Av G S₀ ρ σ S H D,SR K cls Av G S₀ ρ σ S H->jv K cls W Av G S₀ S D (m ρ)->ts D σ H
end
section
variable{K:PySem.W.Frag}{cls:String->Option Addr}{W:XW}{Av G S₀ S S' H H' B B':Hp}{ρ:ag}{σ:St}{Q:VK}
theorem mZ.back(h:mZ K B' S H r v)(g:aK B B'):mZ K B S H r v:=by
 cases r with
 |sh x=>exact h
 |fr xs=>obtain⟨p,vs,e,h1,h2⟩:=h;exact⟨p,vs,e,g.free h1,h2⟩
 |al xs=>exact h
theorem lU.back(w:bq S H S1 H1)(h:lU K cls W σ S H Q o):lU K cls W σ S1 H1 Q o:=by
 cases o with
 |ok r=>exact fun v S' H' w' r=>h v S' H' (w.trans w') (r.back w.g)
 |exc c fs=>exact fun a C S' H' w' r=>h a C S' H' (w.trans w') r
 |bad=>exact h
theorem uC.back{Q:Bool->Hp->Prop}(w:bq S H S1 H1)(h:uC K cls W σ S H Q o):uC K cls W σ S1 H1 Q o:=by
 cases o with
 |ok r=>exact fun S' H' w'=>h S' H' (w.trans w')
 |exc c fs=>exact fun a C S' H' w' r=>h a C S' H' (w.trans w') r
 |bad=>exact h
theorem xa.back{Q:List V->Hp->Prop}(w:bq S H S1 H1)(h:xa K cls W σ S H Q o):xa K cls W σ S1 H1 Q o:=by
 cases o with
 |ok r=>exact fun v S' H' w' r=>h v S' H' (w.trans w') r
 |exc c fs=>exact fun a C S' H' w' r=>h a C S' H' (w.trans w') r
 |bad=>exact h
theorem jv.back(s:aK S S1)(h:jv K cls W Av G S₀ S D o):jv K cls W Av G S₀ S1 D o:=by
 cases o with
 |nx ρ=>exact fun σ' S' H' I s'=>h σ' S' H' I (s.trans s')
 |bk ρ=>exact fun σ' S' H' I s'=>h σ' S' H' I (s.trans s')
 |ct ρ=>exact fun σ' S' H' I s'=>h σ' S' H' I (s.trans s')
 |rt ρ r=>exact fun v σ' S' H' I s'=>h v σ' S' H' I (s.trans s')
 |exc ρ c fs=>exact fun a C σ' S' H' I s'=>h a C σ' S' H' I (s.trans s')
 |bad=>exact h
theorem JE.go{m:ag->OE}{f:RV->OE}(h:JE K cls W te m)(I:SR K cls Av G S₀ ρ σ S H)(p:lU K cls W σ S H Q ((m ρ).bind f))
  (k:∀ r v S1 H1,SR K cls Av G S₀ ρ σ S1 H1->bq S H S1 H1->mZ K H S1 H1 r v->lU K cls W σ S1 H1 Q (f r)->Q' v H1):te σ H Q':=by
 refine h Av G S₀ ρ σ S H Q' I ?_
 cases e:m ρ with
 |ok r=>rw[e]at p;exact fun v S1 H1 w r1=>k r v S1 H1 (I.grow w) w r1 (p.back w)
 |exc c fs=>rw[e]at p;exact p
 |bad=>rw[e]at p;exact p
theorem JE.goT{m:ag->OE}{f:RV->OT}{Q:Bool->Hp->Prop}(h:JE K cls W te m)(I:SR K cls Av G S₀ ρ σ S H)(p:uC K cls W σ S H Q ((m ρ).gc f))
  (k:∀ r v S1 H1,SR K cls Av G S₀ ρ σ S1 H1->bq S H S1 H1->mZ K H S1 H1 r v->uC K cls W σ S1 H1 Q (f r)->Q' v H1):te σ H Q':=by
 refine h Av G S₀ ρ σ S H Q' I ?_
 cases e:m ρ with
 |ok r=>rw[e]at p;exact fun v S1 H1 w r1=>k r v S1 H1 (I.grow w) w r1 (p.back w)
 |exc c fs=>rw[e]at p;exact p
 |bad=>rw[e]at p;exact p
theorem JE.goS{m:ag->OE}{f:RV->OS}(h:JE K cls W te m)(I:SR K cls Av G S₀ ρ σ S H)(p:jv K cls W Av G S₀ S D ((m ρ).cW ρ f))
  (k:∀ r v S1 H1,SR K cls Av G S₀ ρ σ S1 H1->bq S H S1 H1->mZ K H S1 H1 r v->jv K cls W Av G S₀ S1 D (f r)->Q' v H1):te σ H Q':=by
 refine h Av G S₀ ρ σ S H Q' I ?_
 cases e:m ρ with
 |ok r=>rw[e]at p;exact fun v S1 H1 w r1=>k r v S1 H1 (I.grow w) w r1 (p.back w.s)
 |exc c fs=>rw[e]at p;exact fun a C S' H' w x=>p a C σ S' H' (I.grow w) w.s x
 |bad=>rw[e]at p;exact p
theorem JT.go{m:ag->OT}{f:Bool->OE}{Q':Bool->Hp->Prop}(h:JT K cls W te m)(I:SR K cls Av G S₀ ρ σ S H)(p:lU K cls W σ S H Q ((m ρ).bind f))
  (k:∀ b S1 H1,SR K cls Av G S₀ ρ σ S1 H1->bq S H S1 H1->lU K cls W σ S1 H1 Q (f b)->Q' b H1):te σ H Q':=by
 refine h Av G S₀ ρ σ S H Q' I ?_
 cases e:m ρ with
 |ok r=>rw[e]at p;exact fun S1 H1 w=>k r S1 H1 (I.grow w) w (p.back w)
 |exc c fs=>rw[e]at p;exact p
 |bad=>rw[e]at p;exact p
theorem JT.goT{m:ag->OT}{f:Bool->OT}{Q Q':Bool->Hp->Prop}(h:JT K cls W te m)(I:SR K cls Av G S₀ ρ σ S H)(p:uC K cls W σ S H Q ((m ρ).gc f))
  (k:∀ b S1 H1,SR K cls Av G S₀ ρ σ S1 H1->bq S H S1 H1->uC K cls W σ S1 H1 Q (f b)->Q' b H1):te σ H Q':=by
 refine h Av G S₀ ρ σ S H Q' I ?_
 cases e:m ρ with
 |ok r=>rw[e]at p;exact fun S1 H1 w=>k r S1 H1 (I.grow w) w (p.back w)
 |exc c fs=>rw[e]at p;exact p
 |bad=>rw[e]at p;exact p
theorem JT.goS{m:ag->OT}{f:Bool->OS}{Q':Bool->Hp->Prop}(h:JT K cls W te m)(I:SR K cls Av G S₀ ρ σ S H)(p:jv K cls W Av G S₀ S D ((m ρ).cW ρ f))
  (k:∀ b S1 H1,SR K cls Av G S₀ ρ σ S1 H1->bq S H S1 H1->jv K cls W Av G S₀ S1 D (f b)->Q' b H1):te σ H Q':=by
 refine h Av G S₀ ρ σ S H Q' I ?_
 cases e:m ρ with
 |ok r=>rw[e]at p;exact fun S1 H1 w=>k r S1 H1 (I.grow w) w (p.back w.s)
 |exc c fs=>rw[e]at p;exact fun a C S' H' w x=>p a C σ S' H' (I.grow w) w.s x
 |bad=>rw[e]at p;exact p
theorem JA.go{m:ag->OA}{f:List PV->OE}{Q':List V->Hp->Prop}(h:JA K cls W te m)(I:SR K cls Av G S₀ ρ σ S H)(p:lU K cls W σ S H Q ((m ρ).bind f))
  (k:∀ xs vs S1 H1,SR K cls Av G S₀ ρ σ S1 H1->bq S H S1 H1->bu K S1 xs vs->lU K cls W σ S1 H1 Q (f xs)->Q' vs H1):te σ H Q':=by
 refine h Av G S₀ ρ σ S H Q' I ?_
 cases e:m ρ with
 |ok r=>rw[e]at p;exact fun v S1 H1 w r1=>k r v S1 H1 (I.grow w) w r1 (p.back w)
 |exc c fs=>rw[e]at p;exact p
 |bad=>rw[e]at p;exact p
theorem JA.goA{m:ag->OA}{f:List PV->OA}{Q Q':List V->Hp->Prop}(h:JA K cls W te m)(I:SR K cls Av G S₀ ρ σ S H)(p:xa K cls W σ S H Q ((m ρ).fI f))
  (k:∀ xs vs S1 H1,SR K cls Av G S₀ ρ σ S1 H1->bq S H S1 H1->bu K S1 xs vs->xa K cls W σ S1 H1 Q (f xs)->Q' vs H1):te σ H Q':=by
 refine h Av G S₀ ρ σ S H Q' I ?_
 cases e:m ρ with
 |ok r=>rw[e]at p;exact fun v S1 H1 w r1=>k r v S1 H1 (I.grow w) w r1 (p.back w)
 |exc c fs=>rw[e]at p;exact p
 |bad=>rw[e]at p;exact p
theorem ae:JE K cls W (zd i) (ao i):=by
 intro Av G S₀ ρ σ S H Q I p;unfold ao at p;split at p
 . rename_i x e;obtain⟨v,e1,r⟩:=I.good i _ e
   exact⟨v,e1,p v S H (bq.refl I.sh) r⟩
 . rename_i xs e;obtain⟨v,e1,a,vs,e2,_,_,h3,h4⟩:=I.good i _ e
   exact⟨v,e1,p v S H (bq.refl I.sh) ⟨a,vs,e2,SqL.new h3,h4⟩⟩
 . exact p.elim
theorem yT(h:∀ S,Rep K S x v):JE K cls W (tC v) (mC x):=fun Av G S₀ ρ σ S H Q I p=>p v S H (bq.refl I.sh) (h S)
theorem ah:JE K cls W (tC (.int n)) (mC (.int n)):=yT fun _=>by unfold Rep;rfl
theorem vh:JE K cls W (tC (.bl n)) (mC (.bl n)):=yT fun _=>by unfold Rep;rfl
theorem cG:JE K cls W (tC .non) (mC .non):=yT fun _=>by unfold Rep;rfl
theorem aL:JE K cls W (tC (.str n)) (mC (.str n)):=yT fun _=>by unfold Rep;rfl
theorem nW{ns:List Int}(h:∀ S,SqT K S p (ns.map V.int)):JE K cls W (tC (.ref p)) (mC (.tup (ns.map .int))):=yT fun S=>by unfold Rep;exact⟨p,_,rfl,h S,bu.ints⟩
def JR(K:PySem.W.Frag)(r:R2)(g:PV->PV->Option RV):Prop:=∀ S H x y v u rr Q,aK S H->RdV K S H x v->RdV K S H y u->g x y=some rr ->
 (∀ z S' H',bq S H S' H'->mZ K H S' H' rr z->Q z H')->r v u H Q
theorem aq{g:PV->PV->Option RV}{ma mb:ag->OE}(hr:JR K r g)(ha:JE K cls W ta ma)(hb:JE K cls W tb mb):JE K cls W (tOp r ta tb) (mOp g ma mb):=by
 intro Av G S₀ ρ σ S H Q I p
 refine ha.go I p fun a v S1 H1 I1 w1 r1 p1=>hb.go I1 p1 fun b u S2 H2 I2 w2 r2 p2=>?_
 cases e:g a.pv b.pv with
 |none=>rw[e]at p2;exact p2.elim
 | some rr=>
   rw[e]at p2;exact hr S2 H2 a.pv b.pv v u rr Q I2.sh ((r1.rd I1.sh).mono w2.s w2.g) (r2.rd I2.sh) e p2
def sv:PV->V
 |.non=>.non
 |.bl b=>.bl b
 |.int i=>.int i
 |.str s=>.str s
 |_=>.non
theorem dD(h:RdV K S H (.int i) v):v=.int i:=by unfold RdV Rep at h;exact h
theorem oH(h:RdV K S H (.bl i) v):v=.bl i:=by unfold RdV Rep at h;exact h
theorem jg(h:RdV K S H (.str i) v):v=.str i:=by unfold RdV Rep at h;exact h
theorem jo(h:RdV K S H .non v):v=.non:=by unfold RdV Rep at h;exact h
theorem gD(h:RdV K S H (.lst xs) v):∃ p vs,v=.ref p /\ SqL K H p vs /\ bu K S xs vs:=h
theorem nT(h:RdV K S H (.tup xs) v):∃ p vs,v=.ref p /\ SqT K S p vs /\ bu K S xs vs:=by unfold RdV Rep at h;exact h
theorem D9{C:Int->Int->Prop}{c:Int->Int->Bool}{f:Int->Int->PV}{fv:Int->Int->V}(hc:∀ i j,c i j=true->C i j)(hf:∀ S i j,Rep K S (f i j) (fv i j)):JR K (rI C fv) (gI c f):=by
 intro S H x y v u rr Q I hx hy e k;unfold gI at e;split at e
 . rename_i i j;split at e
   . rename_i hcc;cases e
     exact⟨i,j,dD hx,dD hy,hc i j hcc,k _ S H (bq.refl I) (hf S i j)⟩
   . cases e
 . cases e
theorem tI{f:Int->Int->PV}{fv:Int->Int->V}(hf:∀ S i j,Rep K S (f i j) (fv i j)):JR K (rI0 fv) (gI (fun _ _=>true) f):=by
 intro S H x y v u rr Q I hx hy e k;unfold gI at e;split at e
 . rename_i i j;simp only[if_true]at e;cases e
   exact⟨i,j,dD hx,dD hy,k _ S H (bq.refl I) (hf S i j)⟩
 . cases e
theorem cj:JR K (rI0 fun i j=>.int (i+j)) eX:=tI fun _ _ _=>by unfold Rep;rfl
theorem rJ:JR K (rI0 fun i j=>.int (i - j)) wA:=tI fun _ _ _=>by unfold Rep;rfl
theorem uc:JR K (rI FC fun i j=>.int (i*j)) y2:=D9 (fun i j h=>by simpa [FC,Bool.or_eq_true,Bool.and_eq_true,decide_eq_true_eq]using h) fun _ _ _=>by unfold Rep;rfl
theorem bR:JR K (rI Ld fun i j=>.int (i/j)) dA:=D9 (fun i j h=>by simpa [Ld,Bool.and_eq_true,decide_eq_true_eq]using h) fun _ _ _=>by unfold Rep;rfl
theorem bO:JR K (rI (fun _ j=>0<j) fun i j=>.int (i%j)) cw:=D9 (fun i j h=>by simpa using h) fun _ _ _=>by unfold Rep;rfl
theorem kf:JR K (rI0 fun i j=>.bl (decide (i<j))) gLt:=tI fun _ _ _=>by unfold Rep;rfl
theorem my:JR K (rI0 fun i j=>.bl (decide (i<=j))) gLe:=tI fun _ _ _=>by unfold Rep;rfl
theorem xv:JR K (rI0 fun i j=>.bl (decide (j<i))) gGt:=tI fun _ _ _=>by unfold Rep;rfl
theorem BM:JR K (rI0 fun i j=>.bl (decide (j<=i))) gGe:=tI fun _ _ _=>by unfold Rep;rfl
theorem En(hx:RdV K S H x v)(hy:RdV K S H y u)(e:eqS x y=some b):Kg v u=true /\ decide (v=u)=b:=by
 unfold eqS at e;split at e
 all_goals first
  |(have h1:=jo hx;subst h1;have h2:=jo hy;subst h2;cases e;exact⟨rfl,by simp⟩)
  |(have h1:=jo hx;subst h1;have h2:=dD hy;subst h2;cases e;exact⟨rfl,by simp⟩)
  |(have h1:=dD hx;subst h1;have h2:=jo hy;subst h2;cases e;exact⟨rfl,by simp⟩)
  |(have h1:=jo hx;subst h1;have h2:=oH hy;subst h2;cases e;exact⟨rfl,by simp⟩)
  |(have h1:=oH hx;subst h1;have h2:=jo hy;subst h2;cases e;exact⟨rfl,by simp⟩)
  |(have h1:=jo hx;subst h1;have h2:=jg hy;subst h2;cases e;exact⟨rfl,by simp⟩)
  |(have h1:=jg hx;subst h1;have h2:=jo hy;subst h2;cases e;exact⟨rfl,by simp⟩)
  |(have h1:=dD hx;subst h1;have h2:=dD hy;subst h2;cases e;exact⟨rfl,by simp⟩)
  |(have h1:=oH hx;subst h1;have h2:=oH hy;subst h2;cases e;exact⟨rfl,by simp⟩)
  |(have h1:=jg hx;subst h1;have h2:=jg hy;subst h2;cases e;exact⟨rfl,by simp⟩)
  |(have h1:=dD hx;subst h1;have h2:=jg hy;subst h2;cases e;exact⟨rfl,by simp⟩)
  |(have h1:=jg hx;subst h1;have h2:=dD hy;subst h2;cases e;exact⟨rfl,by simp⟩)
  |(have h1:=oH hx;subst h1;have h2:=jg hy;subst h2;cases e;exact⟨rfl,by simp⟩)
  |(have h1:=jg hx;subst h1;have h2:=oH hy;subst h2;cases e;exact⟨rfl,by simp⟩)
  |cases e
theorem bj:JR K rEq gEq:=by
 intro S H x y v u rr Q I hx hy e k;obtain⟨b,e1,e2⟩:=Option.map_eq_some_iff.mp e;obtain⟨h1,h2⟩:=En hx hy e1
 refine⟨h1,k _ S H (bq.refl I) ?_⟩
 subst e2;show Rep K S _ _;unfold Rep;rw[h2]
theorem IH:JR K rNe gNe:=by
 intro S H x y v u rr Q I hx hy e k;obtain⟨b,e1,e2⟩:=Option.map_eq_some_iff.mp e;obtain⟨h1,h2⟩:=En hx hy e1
 refine⟨h1,k _ S H (bq.refl I) ?_⟩
 subst e2;show Rep K S _ _;unfold Rep;rw[h2]
end
section
variable{K:PySem.W.Frag}{cls:String->Option Addr}{W:XW}{Av G S₀ S S' H H' B B':Hp}{ρ:ag}{σ:St}{Q:VK}
theorem mZ.share(h:mZ K H S1 H1 r v)(w:bq S H S1 H1)(e:m4 r=some x):∃ S2,bq S H S2 H1 /\ aK S1 S2 /\ Rep K S2 x v:=by
 cases r with
 |sh y=>cases e;exact⟨S1,w,aK.refl _,h⟩
 |al xs=>cases e
 | fr xs=>
   cases e;obtain⟨p,vs,rfl,hB,hS,hH,hr⟩:=h
   refine⟨upd S1 p (.lst vs),⟨w.s.trans (aK.new hS),w.g,fun b u z=>?_,fun b z=>?_⟩,aK.new hS,?_⟩
   . by_cases e:b=p
     . subst e;rw[bQ]at z;cases z;exact hH
     . rw[bL e]at z;exact w.sh b u z
   . by_cases e:b=p
     . subst e;exact .inr hB
     . rw[bL e]at z;exact w.new b z
   . unfold Rep
     exact⟨p,vs,rfl,SqL.new bQ,hr.mono (aK.new hS)⟩
theorem ax:JA K cls W kL aJ:=fun Av G S₀ ρ σ S H Q I p=>p [] S H (bq.refl I.sh) .nil
theorem af{me:ag->OE}{mr:ag->OA}(he:JE K cls W te me)(ht:JA K cls W t mr):JA K cls W (iY te t) (ak me mr):=by
 intro Av G S₀ ρ σ S H Q I p;refine he Av G S₀ ρ σ S H _ I ?_;unfold ak at p
 cases e:me ρ with
 |exc c fs=>rw[e]at p;exact p
 |bad=>rw[e]at p;exact p
 | ok r=>
   rw[e]at p;intro v S1 H1 w1 r1;simp only[OE.fI]at p
   cases es:m4 r with
   |none=>rw[es]at p;exact p.elim
   | some x=>
     rw[es]at p;obtain⟨S2,w2,s2,rx⟩:=r1.share w1 es
     refine ht.goA (I.grow w2) (p.back w2) fun xs vs S3 H3 I3 w3 r3 p3=>?_
     exact p3 (v ::vs) S3 H3 (bq.refl I3.sh) (.cons (Rep.mono w3.s rx) r3)
theorem EF:lim=sizeLine:=by decide
theorem aS{ma:ag->OA}(h:JA K cls W t ma):JE K cls W (HN t) (bT ma):=by
 intro Av G S₀ ρ σ S H Q I p
 refine h.go I p fun xs vs S1 H1 I1 w1 r1 p1=>?_
 split at p1
 . rename_i hl
   refine⟨by rw[r1.length];exact hl,fun q hq=>p1 (.ref q) S1 _ (bq.heap I1.sh hq) ⟨q,vs,rfl,hq,I1.sh.free hq,bQ,r1⟩⟩
 . exact p1.elim
theorem cx{ma:ag->OA}(h:JA K cls W t ma):JE K cls W (Lx t) (eU ma):=by
 intro Av G S₀ ρ σ S H Q I p
 refine h.go I p fun xs vs S1 H1 I1 w1 r1 p1=>?_
 split at p1
 . rename_i hl
   refine⟨by rw[r1.length];exact hl,fun q hq=>p1 (.ref q) _ _ (bq.both I1.sh hq) ?_⟩
   show Rep K _ _ _;unfold Rep
   exact⟨q,vs,rfl,SqT.new bQ,r1.mono (bq.both (o:=.tup vs) I1.sh hq).s⟩
 . exact p1.elim
def LO(K:PySem.W.Frag)(cls:String->Option Addr)(S H:Hp)(Q:VK)(E:XK):OE->Prop
 |.ok r=>∀ v S' H',bq S H S' H'->mZ K H S' H' r v->Q v H'
 |.exc c fs=>∀ a C S' H',bq S H S' H'->oW K cls S' H' c fs a C->E (.ref C) (some a) H'
 |.bad=>False
def spP(K:PySem.W.Frag)(cls:String->Option Addr)(f:List PV->OE):Sp:=fun vs H Q E=>∃ S xs,aK S H /\ bu K S xs vs /\ LO K cls S H Q E (f xs)
theorem aR{ma:ag->OA}{f:List PV->OE}(h:JA K cls W t ma):JE K cls W (q8 (spP K cls f) [] W t) (br f ma):=by
 intro Av G S₀ ρ σ S H Q I p
 refine h.go I p fun xs vs S1 H1 I1 w1 r1 p1=>?_
 show spP K cls f (vs++[]) H1 Q _;rw[List.append_nil]
 refine⟨S1,xs,I1.sh,r1,?_⟩
 cases e:f xs with
 |ok r=>rw[e]at p1;exact p1
 |exc c fs=>rw[e]at p1;exact p1
 |bad=>rw[e]at p1;exact p1
def JU(K:PySem.W.Frag)(r:List V->Hp->VK->Prop)(g:PV->Option RV):Prop:=∀ S H x v rr Q,aK S H->RdV K S H x v->g x=some rr ->
 (∀ z S' H',bq S H S' H'->mZ K H S' H' rr z->Q z H')->r [v] H Q
theorem gm{r:List V->Hp->VK->Prop}{g:PV->Option RV}{ma:ag->OE}(hr:JU K r g)(ha:JE K cls W ta ma):JE K cls W (tCB r (iY ta kL)) (mUn g ma):=by
 intro Av G S₀ ρ σ S H Q I p
 refine ha.go I p fun a v S1 H1 I1 w1 r1 p1=>?_
 show r [v] H1 Q
 cases e:g a.pv with
 |none=>rw[e]at p1;exact p1.elim
 |some rr=>rw[e]at p1;exact hr S1 H1 a.pv v rr Q I1.sh (r1.rd I1.sh) e p1
theorem lX{r:V->Hp->VK->Prop}{g:PV->Option RV}{ma:ag->OE}(hr:JU K (fun vs H Q=>∃ v,vs=[v] /\ r v H Q) g)(ha:JE K cls W ta ma):JE K cls W (tUn r ta) (mUn g ma):=by
 intro Av G S₀ ρ σ S H Q I p
 refine ha.go I p fun a v S1 H1 I1 w1 r1 p1=>?_
 cases e:g a.pv with
 |none=>rw[e]at p1;exact p1.elim
 | some rr=>
   rw[e]at p1;obtain⟨u,e1,h⟩:=hr S1 H1 a.pv v rr Q I1.sh (r1.rd I1.sh) e p1;cases e1;exact h
theorem jb:JU K (fun vs H Q=>∃ v,vs=[v] /\ rU (fun i=>.int (-i)) v H Q) gn:=by
 intro S H x v rr Q I hx e k
 cases x with
 |int i=>cases e;exact⟨v,rfl,i,dD hx,k _ S H (bq.refl I) (by show Rep K S _ _;unfold Rep;rfl)⟩
 |_=>cases e
theorem tu:JU K (fun xs H Q=>∃ p ys,xs=[.ref p] /\ (SqL K H p ys \/ SqT K H p ys) /\ Q (.int ys.length) H) xO:=by
 intro S H x v rr Q I hx e k
 cases x with
 | lst xs=>
   cases e;obtain⟨p,vs,rfl,hq,r⟩:=gD hx
   exact⟨p,vs,rfl,.inl hq,k _ S H (bq.refl I) (by show Rep K S _ _;unfold Rep;rw[r.length])⟩
 | tup xs=>
   cases e;obtain⟨p,vs,rfl,hq,r⟩:=nT hx
   exact⟨p,vs,rfl,.inr (aK.tup I hq),k _ S H (bq.refl I) (by show Rep K S _ _;unfold Rep;rw[r.length])⟩
 |_=>cases e
theorem BU:JU K (fun xs H Q=>(∃ i,xs=[.int i] /\ Q (.int i) H) \/ ∃ k,xs=[.bl k] /\ Q (.int (if k then 1 else 0)) H) zb:=by
 intro S H x v rr Q I hx e k
 cases x with
 |int i=>cases e;exact .inl ⟨i,by rw[dD hx],k _ S H (bq.refl I) (by show Rep K S _ _;unfold Rep;rfl)⟩
 |bl b=>cases e;exact .inr ⟨b,by rw[oH hx],k _ S H (bq.refl I) (by show Rep K S _ _;unfold Rep;rfl)⟩
 |_=>cases e
theorem JC{α:Type}(xs:List α)(i:Int):atP xs i=L2.atI xs i:=rfl
theorem bu.atI(h:bu K S xs vs)(e:atP xs i=some x):∃ v,L2.atI vs i=some v /\ Rep K S x v:=by
 rw[JC]at e
 unfold L2.atI at e ⊢
 rw[h.length]
 cases q:ixN xs.length i with
 |none=>rw[q]at e;cases e
 |some j=>rw[q]at e;exact h.get e
theorem pf:JR K (Ha K) nk:=by
 intro S H x y v u rr Q I hx hy e k;unfold nk at e;split at e
 . rename_i xs i;obtain⟨z,e1,e2⟩:=Option.map_eq_some_iff.mp e;obtain⟨p,vs,rfl,hq,r⟩:=gD hx;obtain⟨w,e3,rw'⟩:=r.atI e1;subst e2
   exact⟨p,vs,i,w,rfl,dD hy,hq,e3,k _ S H (bq.refl I) rw'⟩
 . cases e
theorem dR:JR K (LZ K) dw:=by
 intro S H x y v u rr Q I hx hy e k;unfold dw at e;split at e
 . rename_i xs i;obtain⟨z,e1,e2⟩:=Option.map_eq_some_iff.mp e;obtain⟨p,vs,rfl,hq,r⟩:=nT hx;obtain⟨w,e3,rw'⟩:=r.atI e1;subst e2
   exact⟨p,vs,i,w,rfl,dD hy,aK.tup I hq,e3,k _ S H (bq.refl I) rw'⟩
 . cases e
end
section
variable{K:PySem.W.Frag}{cls:String->Option Addr}{W:XW}{Av G S₀ S S' H H' B B':Hp}{ρ:ag}{σ:St}{Q:VK}
theorem fN:JR K (IG K) iQ:=by
 intro S H x y v u rr Q I hx hy e k;unfold iQ at e;split at e
 . rename_i xs ys;split at e
   . rename_i hl;cases e;obtain⟨p,vs,rfl,hq,r⟩:=gD hx;obtain⟨p2,vs2,rfl,hq2,r2⟩:=gD hy
     exact⟨p,p2,vs,vs2,rfl,rfl,hq,hq2,by rw[r.length,r2.length];exact hl,fun l hn=>k _ S _ (bq.heap I hn) ⟨l,_,rfl,hn,I.free hn,bQ,r.append r2⟩⟩
   . cases e
 . cases e
theorem xx{xs:List PV}{ns:List Int}(h:tQ xs=some ns):xs=ns.map .int:=by
 induction xs generalizing ns with
 |nil=>cases h;rfl
 | cons x xs ih=>
   cases x with
   | int i=>
     obtain⟨ms,e1,e2⟩:=Option.map_eq_some_iff.mp h;subst e2;rw[ih e1];rfl
   |_=>cases h
theorem Cv{x y:PV}{v u:V}{b:Bool}(hx:RdV K S H x v)(hy:RdV K S H y u)(e:A1 x y=some b):
  ∃(p q:Addr) (ns ms:List Int),v=.ref p /\ u=.ref q /\ SqL K H p (ns.map V.int) /\ SqL K H q (ms.map V.int) /\ b=decide (ns=ms):=by
 unfold A1 at e;split at e
 . rename_i xs ys;split at e
   . rename_i a b' e1 e2;cases e;obtain⟨p,vs,rfl,hq,r⟩:=gD hx;obtain⟨p2,vs2,rfl,hq2,r2⟩:=gD hy;rw[xx e1]at r;rw[xx e2]at r2;rw[r.zK]at hq;rw[r2.zK]at hq2
     exact⟨p,p2,a,b',rfl,rfl,hq,hq2,rfl⟩
   . cases e
 . cases e
theorem yh{A:Around}(hu:A.units+64<cLine):JR K (GX K A false) yK:=by
 intro S H x y v u rr Q I hx hy e k;obtain⟨b,e1,e2⟩:=Option.map_eq_some_iff.mp e;obtain⟨p,q,ns,ms,rfl,rfl,h1,h2,rfl⟩:=Cv hx hy e1;subst e2
 exact⟨p,q,ns,ms,rfl,rfl,h1,h2,hu,k _ S H (bq.refl I) (by show Rep K S _ _;unfold Rep;simp)⟩
theorem Ep{A:Around}(hu:A.units+64<cLine):JR K (GX K A true) Dk:=by
 intro S H x y v u rr Q I hx hy e k;obtain⟨b,e1,e2⟩:=Option.map_eq_some_iff.mp e;obtain⟨p,q,ns,ms,rfl,rfl,h1,h2,rfl⟩:=Cv hx hy e1;subst e2
 exact⟨p,q,ns,ms,rfl,rfl,h1,h2,hu,k _ S H (bq.refl I) (by show Rep K S _ _;unfold Rep;simp)⟩
theorem A6{xs:List PV}{vs:List V}{bs:List Bool}(h:qb xs=some bs)(r:bu K S xs vs):vs=bs.map V.bl:=by
 induction xs generalizing bs vs with
 |nil=>cases h;exact r.nil_inv
 | cons x xs ih=>
   cases x with
   | bl i=>
     obtain⟨ms,e1,e2⟩:=Option.map_eq_some_iff.mp h;subst e2;obtain⟨v,t,rfl,h1,h2⟩:=r.cons_inv;unfold Rep at h1;rw[ih e1 h2,h1];rfl
   |_=>cases h
theorem Eb{A:Around}(hh:A.handled=none):JU K (fun xs H Q=>∃(p:Addr) (bs:List Bool),xs=[.ref p] /\ SqL K H p (bs.map V.bl) /\ A.handled=none /\ Q (.bl (bs.all id)) H) Dx:=by
 intro S H x v rr Q I hx e k
 cases x with
 | lst xs=>
   obtain⟨bs,e1,e2⟩:=Option.map_eq_some_iff.mp e;obtain⟨p,vs,rfl,hq,r⟩:=gD hx;rw[A6 e1 r]at hq;subst e2
   exact⟨p,bs,rfl,hq,hh,k _ S H (bq.refl I) (by show Rep K S _ _;unfold Rep;rfl)⟩
 |_=>cases e
theorem JH{T:String}{x:PV}{v:V}{b:Bool}(s:aK S H)(hx:RdV K S H x v)(e:isP T x=some b):IsV K T v H b:=by
 cases x with
 | int i=>
   have:=dD hx;subst this;simp only[isP]at e;split at e
   . cases e;exact .inl ⟨by assumption,rfl⟩
   . split at e
     . rename_i h;cases e;rcases h with h|h|h|h
       . exact .inr (.inl ⟨h,rfl⟩)
       . exact .inr (.inr (.inl ⟨h,rfl⟩))
       . exact .inr (.inr (.inr (.inl ⟨h,rfl⟩)))
       . exact .inr (.inr (.inr (.inr ⟨h,rfl⟩)))
     . cases e
 | bl i=>
   have:=oH hx;subst this;simp only[isP]at e;split at e
   . rename_i h;cases e;rcases h with h|h
     . exact .inl ⟨h,rfl⟩
     . exact .inr (.inl ⟨h,rfl⟩)
   . split at e
     . rename_i h;cases e;rcases h with h|h|h
       . exact .inr (.inr (.inl ⟨h,rfl⟩))
       . exact .inr (.inr (.inr (.inl ⟨h,rfl⟩)))
       . exact .inr (.inr (.inr (.inr ⟨h,rfl⟩)))
     . cases e
 | non=>
   have:=jo hx;subst this;simp only[isP]at e;split at e
   . rename_i h;cases e;rcases h with h|h|h|h|h
     . exact .inl ⟨h,rfl⟩
     . exact .inr (.inl ⟨h,rfl⟩)
     . exact .inr (.inr (.inl ⟨h,rfl⟩))
     . exact .inr (.inr (.inr (.inl ⟨h,rfl⟩)))
     . exact .inr (.inr (.inr (.inr ⟨h,rfl⟩)))
   . cases e
 | str i=>
   have:=jg hx;subst this;simp only[isP]at e;split at e
   . cases e;exact .inr (.inr (.inr (.inr ⟨by assumption,rfl⟩)))
   . split at e
     . rename_i h;cases e;rcases h with h|h|h|h
       . exact .inl ⟨h,rfl⟩
       . exact .inr (.inl ⟨h,rfl⟩)
       . exact .inr (.inr (.inl ⟨h,rfl⟩))
       . exact .inr (.inr (.inr (.inl ⟨h,rfl⟩)))
     . cases e
 | lst xs=>
   obtain⟨p,vs,rfl,hq,r⟩:=gD hx;refine .inl ⟨⟨vs,hq⟩,?_⟩;simp only[isP]at e;split at e
   . cases e;exact .inr (.inr (.inl ⟨by assumption,rfl⟩))
   . split at e
     . rename_i h;cases e;rcases h with h|h|h|h
       . exact .inl ⟨h,rfl⟩
       . exact .inr (.inl ⟨h,rfl⟩)
       . exact .inr (.inr (.inr (.inl ⟨h,rfl⟩)))
       . exact .inr (.inr (.inr (.inr ⟨h,rfl⟩)))
     . cases e
 | tup xs=>
   obtain⟨p,vs,rfl,hq,r⟩:=nT hx;refine .inr ⟨⟨vs,aK.tup s hq⟩,?_⟩;simp only[isP]at e;split at e
   . cases e;exact .inr (.inr (.inr (.inl ⟨by assumption,rfl⟩)))
   . split at e
     . rename_i h;cases e;rcases h with h|h|h|h
       . exact .inl ⟨h,rfl⟩
       . exact .inr (.inl ⟨h,rfl⟩)
       . exact .inr (.inr (.inl ⟨h,rfl⟩))
       . exact .inr (.inr (.inr (.inr ⟨h,rfl⟩)))
     . cases e
theorem v8{T:String}{ta:TE}{ma:ag->OE}(ha:JE K cls W ta ma):
  JE K cls W (tCB (fun xs H Q=>∃ x T b,xs=[x,.ty T] /\ IsV K T x H b /\ Q (.bl b) H) (iY ta (iY (tC (.ty T)) kL))) (mIs T ma):=by
 intro Av G S₀ ρ σ S H Q I p
 refine ha.go I p fun a v S1 H1 I1 w1 r1 p1=>?_
 show ∃ x T' b,[v,V.ty T]=[x,V.ty T'] /\ _
 dsimp only at p1
 cases e:isP T a.pv with
 |none=>rw[e]at p1;exact p1.elim
 | some b=>
   rw[e]at p1
   exact⟨v,T,b,rfl,JH I1.sh (r1.rd I1.sh) e,p1 _ S1 H1 (bq.refl I1.sh) (by show Rep K S1 _ _;unfold Rep;rfl)⟩
end
section
variable{K:PySem.W.Frag}{cls:String->Option Addr}{W:XW}{Av G S₀ S S' H H' B B':Hp}{ρ:ag}{σ:St}{Q:VK}
theorem rM{xs:List PV}{vs:List V}(h:bu K S xs vs):vs.isEmpty=xs.isEmpty:=by
 cases xs with
 |nil=>rw[h.nil_inv];rfl
 |cons x xs=>obtain⟨v,r,rfl,_⟩:=h.cons_inv;rfl
theorem Cz(s:aK S H)(hx:RdV K S H x v)(e:ud x=some b):AY K v H b:=by
 cases x with
 |non=>have:=jo hx;subst this;cases e;rfl
 |bl c=>have:=oH hx;subst this;cases e;rfl
 |int i=>have:=dD hx;subst this;cases e;rfl
 |str z=>cases e
 | lst xs=>
   obtain⟨p,vs,rfl,hq,r⟩:=gD hx;cases e;exact .inl ⟨vs,hq,by rw[rM r]⟩
 | tup xs=>
   obtain⟨p,vs,rfl,hq,r⟩:=nT hx;cases e;exact .inr (.inl ⟨vs,aK.tup s hq,by rw[rM r]⟩)
theorem eN{ma:ag->OE}(ha:JE K cls W ta ma):JT K cls W (fun σ H Q=>ta σ H fun x H'=>∃ k,AY K x H' k /\ Q k H') (dM ma):=by
 intro Av G S₀ ρ σ S H Q I p
 refine ha.goT I p fun r v S1 H1 I1 w1 r1 p1=>?_
 cases e:ud r.pv with
 |none=>rw[e]at p1;exact p1.elim
 |some b=>rw[e]at p1;exact⟨b,Cz I1.sh (r1.rd I1.sh) e,p1 S1 H1 (bq.refl I1.sh)⟩
theorem yo{r:RV}(h:r.pv=.bl b)(r1:mZ K H S1 H1 r v)(s:aK S1 H1):v=.bl b:=by
 have:=r1.rd s;rw[h]at this;exact oH this
theorem ay{ma:ag->OE}(ha:JE K cls W ta ma):JT K cls W (xh ta) (az ma):=by
 intro Av G S₀ ρ σ S H Q I p
 refine ha.goT I p fun r v S1 H1 I1 w1 r1 p1=>?_
 cases e:r.pv with
 |bl b=>rw[e]at p1;exact⟨b,yo e r1 I1.sh,p1 S1 H1 (bq.refl I1.sh)⟩
 |_=>rw[e]at p1;exact p1.elim
theorem Kt{ma:ag->OT}(ha:JT K cls W ta ma):JT K cls W (Hw ta) (BK ma):=by
 intro Av G S₀ ρ σ S H Q I p
 exact ha.goT I p fun b S1 H1 I1 w1 p1=>p1 S1 H1 (bq.refl I1.sh)
theorem jj{ma mb:ag->OT}(ha:JT K cls W ta ma)(hb:JT K cls W tb mb):JT K cls W (KQ ta tb) (da ma mb):=by
 intro Av G S₀ ρ σ S H Q I p
 refine ha.goT I p fun b S1 H1 I1 w1 p1=>?_
 cases b with
 |true=>exact Ar (hb Av G S₀ ρ σ S1 H1 Q I1 p1)
 |false=>exact Al (p1 S1 H1 (bq.refl I1.sh))
theorem uj{ma mb:ag->OT}(ha:JT K cls W ta ma)(hb:JT K cls W tb mb):JT K cls W (tOr ta tb) (kX ma mb):=by
 intro Av G S₀ ρ σ S H Q I p
 refine ha.goT I p fun b S1 H1 I1 w1 p1=>?_
 cases b with
 |false=>exact Al (hb Av G S₀ ρ σ S1 H1 Q I1 p1)
 |true=>exact Ar (p1 S1 H1 (bq.refl I1.sh))
theorem pS:mZ K B S H (.sh (.bl b)) (.bl b):=by show Rep K S _ _;unfold Rep;rfl
theorem DN{ma mb:ag->OE}(ha:JE K cls W ta ma)(hb:JE K cls W tb mb):JE K cls W (F5 ta tb) (BP ma mb):=by
 intro Av G S₀ ρ σ S H Q I p
 refine ha.go I p fun r v S1 H1 I1 w1 r1 p1=>?_
 cases e:r.pv with
 | bl b=>
   rw[e]at p1
   refine⟨b,yo e r1 I1.sh,?_⟩
   cases b with
   |true=>exact Ar (hb Av G S₀ ρ σ S1 H1 Q I1 p1)
   |false=>exact Al (p1 _ S1 H1 (bq.refl I1.sh) pS)
 |_=>rw[e]at p1;exact p1.elim
theorem JJ{ma:ag->OE}(ha:JE K cls W ta ma):JE K cls W (FJ ta) (Ey ma):=by
 intro Av G S₀ ρ σ S H Q I p
 refine ha.go I p fun r v S1 H1 I1 w1 r1 p1=>?_
 cases e:r.pv with
 |bl b=>rw[e]at p1;exact⟨b,yo e r1 I1.sh,p1 _ S1 H1 (bq.refl I1.sh) pS⟩
 |_=>rw[e]at p1;exact p1.elim
theorem hZ{mc:ag->OT}{ma mb:ag->OE}(hc:JT K cls W tc mc)(ha:JE K cls W ta ma)(hb:JE K cls W tb mb):JE K cls W (tIf tc ta tb) (gk mc ma mb):=by
 intro Av G S₀ ρ σ S H Q I p
 refine hc.go I p fun b S1 H1 I1 w1 p1=>?_
 cases b with
 |true=>exact Ar (ha Av G S₀ ρ σ S1 H1 Q I1 p1)
 |false=>exact Al (hb Av G S₀ ρ σ S1 H1 Q I1 p1)
theorem iA{g g':PV->PV->Option RV}{ma mb mc:ag->OE}(hr:JR K r g)(hr':JR K r' g')(ha:JE K cls W ta ma)(hb:JE K cls W tb mb)(hc:JE K cls W tc mc):
  JE K cls W (vI r r' ta tb tc) (iJ g g' ma mb mc):=by
 intro Av G S₀ ρ σ S H Q I p
 refine ha.go I p fun a v S1 H1 I1 w1 r1 p1=>hb.go I1 p1 fun b u S2 H2 I2 w2 r2 p2=>?_
 cases e:g a.pv b.pv with
 |none=>rw[e]at p2;exact p2.elim
 | some rr=>
   rw[e]at p2
   refine hr S2 H2 a.pv b.pv v u rr _ I2.sh ((r1.rd I1.sh).mono w2.s w2.g) (r2.rd I2.sh) e fun z S3 H3 w3 r3=>?_
   have I3:=I2.grow w3;simp only[oE,OE.bind]at p2
   cases e3:rr.pv with
   | bl k=>
     rw[e3]at p2;have hz:=yo e3 r3 I3.sh
     refine⟨k,hz,?_⟩
     cases k with
     |false=>exact Al (p2 _ S3 H3 w3 pS)
     | true=>
       refine Ar (hc.go I3 (p2.back w3) fun c y S4 H4 I4 w4 r4 p4=>?_)
       cases e4:g' b.pv c.pv with
       |none=>rw[e4]at p4;exact p4.elim
       |some r'=>rw[e4]at p4;exact hr' S4 H4 b.pv c.pv u y r' Q I4.sh (((r2.rd I2.sh).mono w3.s w3.g).mono w4.s w4.g) (r4.rd I4.sh) e4 p4
   |_=>rw[e3]at p2;exact p2.elim
theorem aw{ma mb:ag->OS}(ha:JS K cls W ta ma)(hb:JS K cls W tb mb):JS K cls W (K7 ta tb) (aG ma mb):=by
 intro Av G S₀ ρ σ S H D I p;refine ha Av G S₀ ρ σ S H _ I ?_;unfold aG at p
 cases e:ma ρ with
 |nx ρ'=>rw[e]at p;exact fun σ' S' H' I' s'=>hb Av G S₀ ρ' σ' S' H' D I' (p.back s')
 |bk ρ'=>rw[e]at p;exact p
 |ct ρ'=>rw[e]at p;exact p
 |rt ρ' r=>rw[e]at p;exact p
 |exc ρ' c fs=>rw[e]at p;exact p
 |bad=>rw[e]at p;exact p
theorem aD:JS K cls W DS aO:=fun Av G S₀ ρ σ S H D I p=>p σ S H I (aK.refl _)
theorem aV{me:ag->OE}(he:JE K cls W te me):JS K cls W (tW te (kh i)) (bf i me):=by
 intro Av G S₀ ρ σ S H D I p
 refine he.goS I p fun r v S1 H1 I1 w1 r1 p1=>?_
 show D.nx (σ.set i (some v)) H1
 cases r with
 |sh x=>exact p1 _ S1 H1 (I1.Ca r1) (aK.refl _)
 |fr xs=>exact p1 _ S1 H1 (I.L8 w1 r1) (aK.refl _)
 |al xs=>exact p1.elim
theorem aU{mc:ag->OT}{ma mb:ag->OS}(hc:JT K cls W tc mc)(ha:JS K cls W ta ma)(hb:JS K cls W tb mb):JS K cls W (HR tc ta tb) (bb mc ma mb):=by
 intro Av G S₀ ρ σ S H D I p
 refine hc.goS I p fun b S1 H1 I1 w1 p1=>?_
 cases b with
 |true=>exact Ar (ha Av G S₀ ρ σ S1 H1 D I1 p1)
 |false=>exact Al (hb Av G S₀ ρ σ S1 H1 D I1 p1)
theorem aB{me:ag->OE}(he:JE K cls W te me):JS K cls W (GR te) (aZ me):=by
 intro Av G S₀ ρ σ S H D I p
 refine he.goS I p fun r v S1 H1 I1 w1 r1 p1=>?_
 cases r with
 |sh x=>exact p1 v σ S1 H1 I1 (aK.refl _) r1
 |fr xs=>exact p1 v σ S1 H1 I1 (aK.refl _) (r1.back I.gh)
 |al xs=>exact p1.elim
theorem nc:JS K cls W (GR (zd i)) (gY i):=by
 intro Av G S₀ ρ σ S H D I p;unfold gY at p;split at p
 . rename_i x e;obtain⟨v,e1,r⟩:=I.good i _ e
   exact⟨v,e1,p v σ S H I (aK.refl _) r⟩
 . rename_i xs e;obtain⟨v,e1,a,vs,e2,h1,h2,h3,h4⟩:=I.good i _ e
   exact⟨v,e1,p v σ S H I.drop (aK.refl _) ⟨a,vs,e2,h1,h2,h3,h4⟩⟩
 . exact p.elim
theorem kZ{m:ag->OS}(h:JS K cls W ts m):JS K cls W ts (gw i m):=by
 intro Av G S₀ ρ σ S H D I p;unfold gw kR at p;split at p
 . rename_i xs e;obtain⟨S',s,J⟩:=I.LL e;exact h Av G S₀ _ σ S' H D J (p.back s)
 . exact h Av G S₀ ρ σ S H D I p
theorem lb{me:ag->OE}(he:JE K cls W te me):JS K cls W (sT (tBM K "list" yl (zd i) (iY te kL))) (eR i me):=by
 intro Av G S₀ ρ σ S H D I p;unfold eR at p;split at p
 . rename_i xs e;obtain⟨v,e1,a,vs,rfl,h1,h2,h3,h4⟩:=I.good i _ e
   refine⟨_,e1,.inl ⟨rfl,_,SqL.new h3⟩,?_⟩
   refine he Av G S₀ ρ σ S H _ I ?_
   cases em:me ρ with
   |exc c fs=>rw[em]at p;exact fun a C S' H' w x=>p a C σ S' H' (I.grow w) w.s x
   |bad=>rw[em]at p;exact p
   | ok r=>
     rw[em]at p;intro u S1 H1 w1 r1;simp only[OE.cW]at p
     cases es:m4 r with
     |none=>rw[es]at p;exact p.elim
     | some y=>
       rw[es]at p
       dsimp only at p
       split at p
       . rename_i hl;obtain⟨S2,w2,s2,rx⟩:=r1.share w1 es;have I2:=I.grow w2
         refine⟨a,vs,u,rfl,rfl,w2.g _ _ h3,by rw[h4.length];exact hl,?_⟩
         exact p σ S2 _ (I2.mut e e1 ((h4.mono w2.s).append (.cons rx .nil))) w2.s
       . exact p.elim
 . exact p.elim
theorem xo{mb:ag->OS}{D:Ends}{N:St->Hp->Prop}(hb:JS K cls W tb mb)(I:SR K cls Av G S₀ ρ σ S H)(hx:Rep K S x v)
  (p:jv K cls W Av G S₀ S D (gR i mb (x ::xs) ρ)) (hN:∀ ρ' σ' S' H',SR K cls Av G S₀ ρ' σ' S' H'->aK S S'->jv K cls W Av G S₀ S' D (gR i mb xs ρ')->N σ' H'):
  kh i v σ H fun σ2 H2=>tb { D with nx:=N,ct:=N,bk:=D.nx } σ2 H2:=by
 refine hb Av G S₀ _ _ S H _ (I.Ca hx) ?_;rw[jM]at p
 cases e:mb (ρ.set i (some (.sh x)))with
 |nx ρ'=>rw[e]at p;exact fun σ' S' H' I' s'=>hN ρ' σ' S' H' I' s' (p.back s')
 |ct ρ'=>rw[e]at p;exact fun σ' S' H' I' s'=>hN ρ' σ' S' H' I' s' (p.back s')
 |bk ρ'=>rw[e]at p;exact p
 |rt ρ' r=>rw[e]at p;exact p
 |exc ρ' c fs=>rw[e]at p;exact p
 |bad=>rw[e]at p;exact p
theorem pY{ml:ag->OE}{mb:ag->OS}(hl:JE K cls W tl ml)(hb:JS K cls W tb mb):JS K cls W (EN (zu K tl) (kh i) tb) (mw i ml mb):=by
 intro Av G S₀ ρ σ S H D I p;refine hl Av G S₀ ρ σ S H _ I ?_;unfold mw at p
 cases em:ml ρ with
 |exc c fs=>rw[em]at p;exact fun a C S' H' w x=>p a C σ S' H' (I.grow w) w.s x
 |bad=>rw[em]at p;exact p
 | ok r=>
   rw[em]at p;intro v S1 H1 w1 r1;simp only[OE.cW]at p
   cases ei:zt r with
   |none=>rw[ei]at p;exact p.elim
   | some xs=>
     rw[ei]at p
     have es:m4 r=some (.lst xs):=by
      cases r with
      |sh y=>cases y<;>cases ei<;>rfl
      |fr ys=>cases ei;rfl
      |al ys=>cases ei
     obtain⟨S2,w2,s2,rx⟩:=r1.share w1 es;have I2:=I.grow w2;unfold Rep at rx;obtain⟨a,vs,rfl,hq,hr⟩:=rx
     refine⟨a,rfl,⟨vs,aK.seq I2.sh hq⟩,?_⟩
     refine DV (xs:=vs) (fun k σ' H'=>∃ ρ' S',SR K cls Av G S₀ ρ' σ' S' H' /\ aK S2 S' /\ jv K cls W Av G S₀ S' D (gR i mb (xs.drop k) ρ'))
      ⟨ρ,S2,I2,aK.refl _,p.back w2.s⟩ ?_ ?_ ?_
     . rintro k σ' H' _ ⟨ρ',S',I',s',_⟩
       exact aK.seq (s'.trans I'.sh) hq
     . rintro k x σ' H' hx ⟨ρ',S',I',s',p'⟩
       obtain⟨y,hy,ry⟩:=hr.My hx
       have hd:xs.drop k=y ::xs.drop (k+1):=by
        have hk:k<xs.length:=(List.getElem?_eq_some_iff.mp hy).1
        rw[List.drop_eq_getElem_cons hk]
        congr 1
        have:=List.getElem?_eq_getElem hk;rw[hy]at this
        exact(Option.some.inj this).symm
       rw[hd]at p'
       exact xo hb I' (Rep.mono s' ry) p' fun ρ2 σ2 S3 H3 I3 s3 p3=>⟨ρ2,S3,I3,s'.trans s3,p3⟩
     . rintro σ' H' ⟨ρ',S',I',s',p'⟩
       rw[List.drop_of_length_le (by rw[hr.length];exact Nat.le_refl _)]at p';exact p' σ' S' H' I' (aK.refl _)
theorem zQ(h:k<n):(dE n).drop k=.int (k:Int) ::(dE n).drop (k+1):=by
 have hk:k<(dE n).length:=by unfold dE;simpa using h
 rw[List.drop_eq_getElem_cons hk]
 congr 1
 simp[dE]
theorem yB{me:ag->OE}{mb:ag->OS}(he:JE K cls W te me)(hb:JS K cls W tb mb):JS K cls W (EN (BW (iY te kL)) (kh i) tb) (uy i me mb):=by
 intro Av G S₀ ρ σ S H D I p
 refine he.goS I p fun r v S1 H1 I1 w1 r1 p1=>?_
 cases e:r.pv with
 | int j=>
   rw[e]at p1
   have hv:v=.int j:=by have:=r1.rd I1.sh;rw[e]at this;exact dD this
   subst hv
   dsimp only at p1
   split at p1
   . rename_i hj
     refine⟨j,rfl,hj.1,hj.2,?_⟩
     refine Dj (n:=j.toNat) (fun k σ' H'=>∃ ρ' S',SR K cls Av G S₀ ρ' σ' S' H' /\ aK S1 S' /\ jv K cls W Av G S₀ S' D (gR i mb ((dE j.toNat).drop k) ρ'))
      ⟨ρ,S1,I1,aK.refl _,p1⟩ ?_ ?_
     . rintro k σ' H' hk ⟨ρ',S',I',s',p'⟩
       rw[zQ hk]at p'
       refine xo hb I' ?_ p' fun ρ2 σ2 S3 H3 I3 s3 p3=>⟨ρ2,S3,I3,s'.trans s3,p3⟩
       unfold Rep;rw[Int.zero_add]
     . rintro σ' H' ⟨ρ',S',I',s',p'⟩
       rw[List.drop_of_length_le (by unfold dE;simp)]at p';exact p' σ' S' H' I' (aK.refl _)
   . exact p1.elim
 |_=>rw[e]at p1;exact p1.elim
theorem va{mc:ag->OT}{mb:ag->OS}(hc:JT K cls W tc mc)(hb:JS K cls W tb mb):JS K cls W (AE tc tb) (fV mc mb n):=by
 intro Av G S₀ ρ σ S H D I p
 refine⟨fun m σ' H'=>∃ ρ' S',SR K cls Av G S₀ ρ' σ' S' H' /\ aK S S' /\ jv K cls W Av G S₀ S' D (fV mc mb m ρ'),⟨n,ρ,S,I,aK.refl _,p⟩,?_⟩
 rintro m σ1 H1 ⟨ρ1,S1,I1,s1,p1⟩
 cases m with
 |zero=>exact p1.elim
 | succ m=>
   unfold fV at p1
   refine hc.goS I1 p1 fun b S2 H2 I2 w2 p2=>?_
   cases b with
   |false=>exact Al (p2 σ1 S2 H2 I2 (aK.refl _))
   | true=>
     refine Ar ⟨fun σ' H'=>∃ ρ' S',SR K cls Av G S₀ ρ' σ' S' H' /\ aK S S' /\ jv K cls W Av G S₀ S' D (fV mc mb m ρ'),fun σ' H' h=>⟨m,Nat.lt_succ_self m,h⟩,?_⟩;refine hb Av G S₀ ρ1 σ1 S2 H2 _ I2 ?_;simp only[if_true]at p2
     cases e:mb ρ1 with
     |nx ρ'=>rw[e]at p2;exact fun σ' S' H' I' s'=>⟨ρ',S',I',(s1.trans w2.s).trans s',p2.back s'⟩
     |ct ρ'=>rw[e]at p2;exact fun σ' S' H' I' s'=>⟨ρ',S',I',(s1.trans w2.s).trans s',p2.back s'⟩
     |bk ρ'=>rw[e]at p2;exact p2
     |rt r=>rw[e]at p2;exact p2
     |exc ρ' c fs=>rw[e]at p2;exact p2
     |bad=>rw[e]at p2;exact p2
end
section
variable{K:PySem.W.Frag}{cls:String->Option Addr}{W:XW}{Av G S₀ S S' H H' B B':Hp}{ρ:ag}{σ:St}{Q:VK}
def EA:V->Option Int
 |.int i=>some i
 |_=>none
def JO(K:PySem.W.Frag)(cls:String->Option Addr)(W:XW)(to:TO)(m:ag->OE):Prop:=∀ Av G S₀ ρ σ S H (Q:Option Int->Hp->Prop),SR K cls Av G S₀ ρ σ S H ->
 lU K cls W σ S H (fun v H'=>Q (EA v) H') (m ρ)->to σ H Q
theorem sy:JO K cls W xI (mC .non):=fun Av G S₀ ρ σ S H Q I p=>p .non S H (bq.refl I.sh) (by show Rep K S _ _;unfold Rep;rfl)
theorem rZ{m:ag->OE}(h:JE K cls W te m):JO K cls W (Fs te) (kb m):=by
 intro Av G S₀ ρ σ S H Q I p
 refine h.go I p fun r v S1 H1 I1 w1 r1 p1=>?_
 cases e:r.pv with
 | int i=>
   rw[e]at p1
   have hv:v=.int i:=by have:=r1.rd I1.sh;rw[e]at this;exact dD this
   exact⟨i,hv,p1 (.int i) S1 H1 (bq.refl I1.sh) (by show Rep K S1 _ _;unfold Rep;rfl)⟩
 |_=>rw[e]at p1;exact p1.elim
theorem JO.go{m:ag->OE}{f:RV->OE}{Q':Option Int->Hp->Prop}(h:JO K cls W to m)(I:SR K cls Av G S₀ ρ σ S H)(p:lU K cls W σ S H Q ((m ρ).bind f))
  (k:∀ r v S1 H1,SR K cls Av G S₀ ρ σ S1 H1->bq S H S1 H1->mZ K H S1 H1 r v->lU K cls W σ S1 H1 Q (f r)->Q' (EA v) H1):to σ H Q':=by
 refine h Av G S₀ ρ σ S H Q' I ?_
 cases e:m ρ with
 |ok r=>rw[e]at p;exact fun v S1 H1 w r1=>k r v S1 H1 (I.grow w) w r1 (p.back w)
 |exc c fs=>rw[e]at p;exact p
 |bad=>rw[e]at p;exact p
theorem part_of(h:RdV K S H x v):EA v=sN x:=by
 cases x with
 |int i=>rw[dD h];rfl
 |non=>rw[jo h];rfl
 |bl b=>rw[oH h];rfl
 |str b=>rw[jg h];rfl
 |lst xs=>obtain⟨p,vs,rfl,_⟩:=gD h;rfl
 |tup xs=>obtain⟨p,vs,rfl,_⟩:=nT h;rfl
theorem bu.cut(h:bu K S xs vs)(lo hi:Option Int):bu K S (By xs lo hi) (Dg vs lo hi):=by
 have es:∀ n d o,wB n d o=HT.sIx n d o:=fun n d o=>by cases o<;>rfl
 unfold By Dg;simp only[es];rw[h.length]
 exact(h.drop _).take _
theorem wy{ma ml mh:ag->OE}(ha:JE K cls W te ma)(hl:JO K cls W tl ml)(hh:JO K cls W th mh):JE K cls W (tSl (Mn K) te tl th) (oX ma ml mh):=by
 intro Av G S₀ ρ σ S H Q I p
 refine ha.go I p fun a v S1 H1 I1 w1 r1 p1=>hl.go I1 p1 fun l u S2 H2 I2 w2 r2 p2=>hh.go I2 p2 fun h z S3 H3 I3 w3 r3 p3=>?_
 rw[part_of (r2.rd I2.sh),part_of (r3.rd I3.sh)];have ra:=((r1.rd I1.sh).mono w2.s w2.g).mono w3.s w3.g
 cases e:a.pv with
 | lst xs=>
   rw[e]at p3 ra;obtain⟨q,vs,rfl,hq,hr⟩:=gD ra
   exact⟨q,vs,rfl,hq,fun b hb=>p3 _ S3 _ (bq.heap I3.sh hb) ⟨b,_,rfl,hb,I3.sh.free hb,bQ,hr.cut _ _⟩⟩
 |_=>rw[e]at p3;exact p3.elim
theorem join_some{α:Type}{o:Option (Option α)}{s:α}(h:o.join=some s):o=some (some s):=by
 cases o with
 |none=>cases h
 | some x=>cases x with
   |none=>cases h
   |some y=>rw[show y=s from Option.some.inj h]
theorem HE{α:Type}{l:List (Option α)}{ι:List Nat}{j:Nat}{s:α}(h:(ι.map fun i=>(l[i]?).join)[j]?=some (some s)):∃ i,ι[j]?=some i /\ l[i]?=some (some s):=by
 rw[List.getElem?_map]at h
 cases e:ι[j]? with
 |none=>rw[e]at h;cases h
 |some i=>rw[e]at h;exact⟨i,rfl,join_some (Option.some.inj h)⟩
def Je(ι:List Nat)(Av:Hp):Hp:=fun j=>match ι[j]? with
 |some i=>Av i
 |none=>none
def Ao(ι:List Nat)(F:Nat->List Addr):Nat->List Addr:=fun j=>match ι[j]? with
 |some i=>F i
 |none=>[]
theorem uK.at(h:uK K cls Av G S H i s v fp)(e:Av' j=Av i):uK K cls Av' G S H j s v fp:=by
 cases s with
 |sh x=>exact h
 |ow xs=>exact h
 |ex c fs=>exact h
 |tr io t=>exact⟨h.1,h.2.1,h.2.2.1,fun z=>by rw[e];exact h.2.2.2 z⟩
 |bo t=>exact h
theorem SR.pick{ι:List Nat}{x:PV}{v:V}(I:SR K cls Av G S₀ ρ σ S H)(hι:ι.Nodup)(hx:Rep K S x v):SR K cls (Je ι Av) G S₀ (cX ι ρ++[some (.sh x)]) (L2.E.pick ι σ++[some v]) S H:=by
 obtain⟨F,J⟩:=I
 have hl:(cX ι ρ).length=(L2.E.pick ι σ).length:=by unfold cX L2.E.pick;simp
 have hp:(cX ι ρ).length=ι.length:=by unfold cX;simp
 refine⟨Ao ι F,J.gh,J.s0,J.sh,J.new,fun j s e=>?_,fun j k a h1 h2=>?_,fun j a h=>?_,by unfold cX L2.E.pick;simp⟩
 . by_cases hj:j<(cX ι ρ).length
   . rw[List.getElem?_append_left hj]at e;obtain⟨i,e1,e2⟩:=HE e;obtain⟨u,e3,r⟩:=J.own i s e2
     refine⟨u,?_,?_⟩
     . rw[List.getElem?_append_left (by rw[<- hl];exact hj)];unfold L2.E.pick;rw[List.getElem?_map,e1];show some (σ[i]?).join=_;rw[e3];rfl
     . unfold Ao;rw[e1];exact r.at (by unfold Je;rw[e1])
   . have hj':(cX ι ρ).length<=j:=Nat.le_of_not_lt hj
     rw[List.getElem?_append_right hj']at e
     have h0:j - (cX ι ρ).length=0:=by
      by_cases h:j - (cX ι ρ).length=0
      . exact h
      . rw[List.getElem?_eq_none (by simp;omega)]at e;cases e
     rw[h0]at e;cases e
     refine⟨v,?_,?_,hx⟩
     . rw[List.getElem?_append_right (by rw[<- hl];exact hj'),<- hl,h0];rfl
     . unfold Ao;rw[List.getElem?_eq_none (by rw[<- hp];exact hj')]
 . unfold Ao at h1 h2
   cases e1:ι[j]? with
   |none=>rw[e1]at h1;cases h1
   | some i=>
     cases e2:ι[k]? with
     |none=>rw[e2]at h2;cases h2
     | some i'=>
       rw[e1]at h1;rw[e2]at h2;have z:=J.apart i i' a h1 h2;subst z;obtain⟨ha,ea⟩:=List.getElem?_eq_some_iff.mp e1;obtain⟨hb,eb⟩:=List.getElem?_eq_some_iff.mp e2
       exact(List.getElem_inj hι).mp (ea.trans eb.symm)
 . unfold Ao at h
   cases e1:ι[j]? with
   |none=>rw[e1]at h;cases h
   |some i=>rw[e1]at h;exact J.live i a h
theorem EI{me:ag->OE}(h:dg me ρ (x ::xs)=.ok ys):∃ r y zs,me (ρ++[some (.sh x)])=.ok r /\ m4 r=some y /\ dg me ρ xs=.ok zs /\ ys=y ::zs:=by
 unfold dg at h
 cases e:me (ρ++[some (.sh x)])with
 | ok r=>
   rw[e]at h;simp only[OE.fI]at h
   cases e2:m4 r with
   |none=>rw[e2]at h;cases h
   | some y=>
     rw[e2]at h
     dsimp only at h
     cases e3:dg me ρ xs with
     |ok zs=>rw[e3]at h;cases h;exact⟨r,y,zs,rfl,e2,rfl,rfl⟩
     |exc c fs=>rw[e3]at h;cases h
     |bad=>rw[e3]at h;cases h
 |exc c fs=>rw[e]at h;cases h
 |bad=>rw[e]at h;cases h
theorem p7{J:It}{ι:List Nat}{me:ag->OE}{xs ys:List PV}(hι:ι.Nodup)(he:JE K cls (fun _ _ _ _=>False) te me)(I:SR K cls Av G S₀ ρ σ S H)(hy:dg me (cX ι ρ) xs=.ok ys)(hl:ys.length<=lim)
  (go:∀ k H' x,aK H H'->xs[k]?=some x->J.go k H' /\ ∀ v H2,J.yld k H' v H2->H2=H' /\ Rep K S x v) (stop:∀ H',aK H H'->J.stop xs.length H')
  (hQ:∀ D S' H',bq S H S' H'->H D=none->S' D=none->(∃ us,H' D=some (.lst us) /\ bu K S' ys us)->Q (.ref D) H'):
  ∀ D,H D=none->∃ W:Nat->Nat->List V->Hp->Prop,(∃ m,W 0 m [] (upd H D (.lst []))) /\ ∀ i m us H',W i m us H' ->
    H' D=some (.lst us) /\ ((J.stop i H' /\ Q (.ref D) H') \/ (J.go i H' /\ ∀ x H2,J.yld i H' x H2->te (L2.E.pick ι σ++[some x]) H2 fun y H3=>H3 D=some (.lst us) /\ us.length<sizeLine /\ ∃ m',m'<m /\ W (i+1) m' (us++[y]) (upd H3 D (.lst (us++[y]))))):=by
 intro D nD
 refine⟨fun k m us H'=>m+k=xs.length /\ H' D=some (.lst us) /\ ∃ S' zs ws,aK S S' /\ aK H H' /\ aK S' H' /\ (∀ b,S' b≠none->S b≠none \/ (H b=none /\ b≠D)) /\ bu K S' zs us /\ dg me (cX ι ρ) (xs.drop k)=.ok ws /\ ys=zs++ws,
  ⟨xs.length,rfl,bQ,S,[],ys,aK.refl _,aK.new nD,I.sh.trans (aK.new nD),fun b z=>.inl z,.nil,hy,rfl⟩,?_⟩
 rintro k m us H' ⟨hm,hD,S',zs,ws,s1,g1,sh1,n1,r1,e1,rfl⟩
 refine⟨hD,?_⟩
 have hSD:S' D=none:=by
  cases q:S' D with
  |none=>rfl
  | some o=>
    rcases n1 D (by rw[q];simp)with z|⟨_,z⟩
    . exact absurd (I.sh.free nD) z
    . exact absurd rfl z
 by_cases hk:k<xs.length
 . refine .inr ?_
   have hx:xs[k]?=some xs[k]:=by simp[hk]
   obtain⟨hgo,hyld⟩:=go k H' xs[k] g1 hx
   refine⟨hgo,fun v H2 hv=>?_⟩
   obtain⟨rfl,rv⟩:=hyld v H2 hv;rw[List.drop_eq_getElem_cons hk]at e1;obtain⟨r,y,zs',em,es,e2,rfl⟩:=EI e1
   have I1:SR K cls Av G S₀ ρ σ S' H2:=I.grow ⟨s1,g1,sh1,fun b z=>by
    rcases n1 b z with z|⟨z,_⟩
    . exact .inl z
    . exact .inr z⟩
   refine he _ G S₀ _ _ S' H2 _ (I1.pick hι (Rep.mono s1 rv)) ?_;rw[em];intro u S2 H3 w2 r2;obtain⟨S3,w3,s3,ru⟩:=r2.share w2 es
   have hl2:(zs++y ::zs').length<=lim:=hl
   have hSD3:S3 D=none:=by
    cases q:S3 D with
    |none=>rfl
    | some o=>
      rcases w3.new D (by rw[q];simp)with z|z
      . exact absurd hSD z
      . rw[hD]at z;cases z
   refine⟨w3.g _ _ hD,?_,m - 1,by omega,by omega,bQ,S3,zs++[y],zs',s1.trans w3.s,(g1.trans w3.g).upd nD,w3.sh.upd hSD3,fun b z=>?_,(r1.mono w3.s).append (.cons ru .nil),e2,by simp⟩
   . rw[r1.length,<- EF];rw[List.length_append,List.length_cons]at hl2;omega
   . rcases w3.new b z with z|z
     . exact n1 b z
     . refine .inr ⟨g1.free z,fun e=>?_⟩;rw[e,hD]at z;cases z
 . have hk':k=xs.length:=by omega
   subst hk';refine .inl ⟨stop H' g1,?_⟩;rw[List.drop_length]at e1;cases e1
   exact hQ D S' H' ⟨s1,g1,sh1,fun b z=>by
    rcases n1 b z with z|⟨z,_⟩
    . exact .inl z
    . exact .inr z⟩ nD hSD ⟨us,hD,by rw[List.append_nil];exact r1⟩
theorem sU{ml me:ag->OE}{ι:List Nat}(hι:ι.Nodup)(hl:JE K cls W tl ml)(he:JE K cls (fun _ _ _ _=>False) te me):JE K cls W (uf (zu K tl) ι te) (rb ml ι me):=by
 intro Av G S₀ ρ σ S H Q I p
 refine hl.go I p fun r v S1 H1 I1 w1 r1 p1=>?_
 have ra:=r1.rd I1.sh
 cases e:r.pv with
 | lst xs=>
   rw[e]at p1 ra;obtain⟨a,vs,rfl,hq,hr⟩:=gD ra
   refine⟨a,rfl,⟨vs,hq⟩,?_⟩
   dsimp only at p1
   cases em:dg me (cX ι ρ) xs with
   |exc c fs=>rw[em]at p1;exact p1.elim
   |bad=>rw[em]at p1;exact p1.elim
   | ok ys=>
     rw[em]at p1;simp only[noX]at p1;split at p1
     . rename_i hlen
       refine p7 hι he I1 em hlen (fun k H' x g hx=>?_) (fun H' g=>⟨vs,aK.seq g hq,by rw[hr.length];exact Nat.le_refl _⟩) fun D S' H' w nD sD ⟨us,hD,rr⟩=>p1 (.ref D) S' H' w ⟨D,us,rfl,nD,sD,hD,rr⟩
       obtain⟨u,hu,ru⟩:=hr.get hx
       refine⟨⟨vs,u,aK.seq g hq,hu⟩,?_⟩
       rintro v' H2 ⟨rfl,hv⟩
       have:=hv vs (aK.seq g hq);rw[hu]at this;cases this
       exact⟨rfl,ru⟩
     . exact p1.elim
 |_=>rw[e]at p1;exact p1.elim
theorem yX{mn me:ag->OE}{ι:List Nat}(hι:ι.Nodup)(hn:JE K cls W tn mn)(he:JE K cls (fun _ _ _ _=>False) te me):JE K cls W (uf (BW (iY tn kL)) ι te) (yI mn ι me):=by
 intro Av G S₀ ρ σ S H Q I p
 refine hn.go I p fun r v S1 H1 I1 w1 r1 p1=>?_
 have ra:=r1.rd I1.sh
 cases e:r.pv with
 | int j=>
   rw[e]at p1 ra;have hv:=dD ra;subst hv
   dsimp only at p1
   split at p1
   . rename_i hj
     refine⟨j,rfl,hj.1,hj.2,?_⟩
     cases em:dg me (cX ι ρ) (dE j.toNat)with
     |exc c fs=>rw[em]at p1;exact p1.elim
     |bad=>rw[em]at p1;exact p1.elim
     | ok ys=>
       rw[em]at p1;simp only[noX]at p1;split at p1
       . rename_i hlen
         have hln:(dE j.toNat).length=j.toNat:=by unfold dE;simp
         refine p7 hι he I1 em hlen (fun k H' x g hx=>?_) (fun H' g=>by rw[hln];exact Nat.le_refl _) fun D S' H' w nD sD ⟨us,hD,rr⟩=>p1 (.ref D) S' H' w ⟨D,us,rfl,nD,sD,hD,rr⟩
         have hk:k<j.toNat:=by rw[<- hln];exact(List.getElem?_eq_some_iff.mp hx).1
         refine⟨hk,?_⟩
         rintro v' H2 ⟨rfl,rfl⟩
         refine⟨rfl,?_⟩
         have:x=.int (k:Int):=by
          unfold dE at hx;rw[List.getElem?_map,List.getElem?_range hk]at hx
          exact(Option.some.inj hx).symm
         subst this;unfold Rep;rw[Int.zero_add]
       . exact p1.elim
   . exact p1.elim
 |_=>rw[e]at p1;exact p1.elim
theorem bu.begin(h:bu K S xs vs)(N:List Str)(i:Nat)(s:Sl)(e:(kB N.length xs)[i]?=some (some s)):∃ x v,s=.sh x /\ (L2.start N vs)[i]?=some (some v) /\ Rep K S x v:=by
 unfold kB at e
 by_cases hi:i<xs.length
 . rw[List.getElem?_append_left (by simpa using hi),List.getElem?_map]at e
   have hx:xs[i]?=some xs[i]:=by simp[hi]
   rw[hx]at e;cases e;obtain⟨v,hv,r⟩:=h.get hx
   refine⟨_,v,rfl,?_,r⟩
   unfold L2.start;rw[List.getElem?_append_left (by rw[List.length_map,h.length];exact hi),List.getElem?_map,hv];rfl
 . rw[List.getElem?_append_right (by simpa using hi)]at e;rw[List.getElem?_replicate]at e
   split at e<;>cases e
theorem Nw{P:Program}{w:World}{mg:Str->Option Value}{base:Heap}{x qual:Str}{st:Stmt}{f:Addr}{fd:FuncData}{N ps:List Str}{k:Nat}{m:ag->OS}(F:Fun K x qual st f fd)(Sc:aW N ps (aC st))
  (hbody:∀(cdv:Value) (A:Around) (outer:List Env) (s:Shared) (H:Hp) (E:XK),ik k (A.deeper (envOfC qual (aC st) s.heap.objs.size f cdv)) ->
    ∃ t,PSs (tT (CXE P w) P w K mg base N qual (aC st) f cdv A outer s H E) (dF st) t /\ JS K cls (fun C a _ H=>∀ H',aK H H'->E C a H') t m):cp P w K mg base (CXE P w) (k+1) f fd ps (spP K cls (fnP ps.length N.length m)):=by
 refine okX F Sc (fun vs H Q E h=>?_) fun cdv A outer s H vs Q E hr h=>?_
 . obtain⟨S,xs,_,r,q⟩:=h;unfold fnP at q;split at q
   . rw[r.length];assumption
   . exact q.elim
 . obtain⟨S,xs,sS,r,q⟩:=h;unfold fnP at q;split at q
   . rename_i hl;obtain⟨t,ht,J⟩:=hbody cdv A outer s H E hr
     refine⟨t,ht,?_⟩
     refine J (fun _=>none) H S (kB N.length xs) (start N vs) S H _ ⟨fun _=>[],aK.refl _,aK.refl _,sS,fun _ z=>.inl z,fun i s e=>?_,fun i j a h=>(nomatch h),fun i a h=>(nomatch h),?_⟩ ?_
     . obtain⟨x,v,rfl,e1,rx⟩:=r.begin N i s e
       exact⟨v,e1,rfl,rx⟩
     . unfold kB L2.start;simp[r.length]
     . cases e:m (kB N.length xs)with
       |nx ρ'=>rw[e]at q;exact fun σ' S' H' I' s'=>q .non S' H' ⟨I'.s0,I'.gh,I'.sh,I'.new⟩ (by show Rep K S' _ _;unfold Rep;rfl)
       |bk ρ'=>rw[e]at q;exact q.elim
       |ct ρ'=>rw[e]at q;exact q.elim
       |bad=>rw[e]at q;exact q.elim
       | rt ρ' r=>
         rw[e]at q
         cases r with
         |al ys=>exact q.elim
         |sh y=>exact fun v σ' S' H' b' s' rr=>q v S' H' ⟨b'.s0,b'.gh,b'.sh,b'.new⟩ rr
         |fr ys=>exact fun v σ' S' H' b' s' rr=>q v S' H' ⟨b'.s0,b'.gh,b'.sh,b'.new⟩ rr
       | exc ρ' c fs=>
         rw[e]at q
         exact fun a C σ' S' H' I' s' x H2 g2=>q a C S' H2 ⟨I'.s0,I'.gh.trans g2,I'.sh.trans g2,I'.new⟩ (x.mono (aK.refl _) g2)
   . exact q.elim
def xT(K:PySem.W.Frag):Sp:=fun vs H Q _=>∃(a:Addr) (ns:List Int),vs=[.ref a] /\ SqL K H a (ns.map V.int) /\ ns.length<=63 /\ ∀ H',Q (.bl true) H'
theorem HH{f:List PV->OE}(h:∀ ns:List Int,ns.length<=63->f [.lst (ns.map .int)]=.ok (.sh (.bl true)))(vs:List V)(H:Hp)(Q:VK)(E:XK)(q:xT K vs H Q E):spP K cls f vs H Q E:=by
 obtain⟨a,ns,rfl,hS,hl,q⟩:=q
 refine⟨H,[.lst (ns.map .int)],aK.refl _,.cons (by unfold Rep;exact⟨a,_,rfl,hS,bu.ints⟩) .nil,?_⟩
 rw[h ns hl];intro v S' H' w r
 have:v=.bl true:=by have r':Rep K S' (.bl true) v:=r;unfold Rep at r';exact r'
 subst this;exact q H'
end
section
variable{K:PySem.W.Frag}{cls:String->Option Addr}{W:XW}{Av G S₀ S S' H H' B B':Hp}{ρ:ag}{σ:St}{Q:VK}
theorem wJ{x:PV}{v:V}(h:RdV K S H x v):decide (v=.non)=cC x:=by
 cases x with
 |non=>rw[jo h];rfl
 |bl b=>rw[oH h];rfl
 |int b=>rw[dD h];rfl
 |str b=>rw[jg h];rfl
 |lst xs=>obtain⟨p,vs,rfl,_⟩:=gD h;rfl
 |tup xs=>obtain⟨p,vs,rfl,_⟩:=nT h;rfl
theorem tG:JR K (fun x y H Q=>y=.non /\ Q (.bl (decide (x=.non))) H) se:=by
 intro S H x y v u rr Q I hx hy e k;unfold se at e;split at e
 . cases e
   exact⟨jo hy,k _ S H (bq.refl I) (by rw[wJ hx];exact pS)⟩
 . cases e
theorem yF:JR K (fun x y H Q=>y=.non /\ Q (.bl (!decide (x=.non))) H) u6:=by
 intro S H x y v u rr Q I hx hy e k;unfold u6 at e;split at e
 . cases e
   exact⟨jo hy,k _ S H (bq.refl I) (by rw[wJ hx];exact pS)⟩
 . cases e
end
end L2.P
namespace L2
open PySem PySem.Spec PyProof.Rows
structure QE(X:Cx)(e:Expr)(t:TE):Prop where
 out:PE X e t
structure QA(X:Cx)(es:List Expr)(t:TA):Prop where
 out:PA X es t
structure QS(X:Cx)(st:Stmt)(t:TS):Prop where
 out:PS X st t
structure QSs(X:Cx)(st:List Stmt)(t:TS):Prop where
 out:PSs X st t
structure QT(X:Cx)(e:Expr)(t:TT):Prop where
 out:PT X e t
structure QW(X:Cx)(e:Expr)(t:TT):Prop where
 out:PW X e t
structure QI(X:Cx)(tg e:Expr)(t:TI):Prop where
 out:PI X tg e t
structure QG(X:Cx)(e:Expr)(t:TG):Prop where
 out:PG X e t
structure QO(X:Cx)(e:Option Expr)(t:TO):Prop where
 out:PO X e t
end L2
namespace L2
theorem qau(h:True:=by first|rfl|decide|exact .inl rfl|exact .inr rfl|exact .inr (.inl rfl)|exact .inr (.inr rfl)|assumption|(intro _;rfl)|with_unfolding_all rfl):True:=h
end L2
namespace L2.E
open PySem PySem.Spec PyProof.Rows L2
theorem vv:QE X (Expr.Constant (Const.bool b) j pos) (tC (V.bl b)):=⟨Me ⟩
theorem ai:QE X (Expr.Constant (Const.int i) j pos) (tC (V.int i)):=⟨KC ⟩
theorem aM:QE X (Expr.Constant (Const.str x) j pos) (tC (V.str x)):=⟨Kl ⟩
theorem cI:QE X (Expr.Constant Const.none j pos) (tC V.non):=⟨Lv ⟩
theorem qv{X:Cx}(h1:Nat)(h4:autoParam (X.N[h1]?=some x) qau._auto_1)(h5:autoParam (Vis X.env.scope x) qau._auto_1)(h6:autoParam ((x==Str.ofString "__debug__")=false) qau._auto_1)(h7:autoParam ((x==Str.ofString "__classdict__")=false) qau._auto_1):QE X (Expr.Name x pos) (zd h1):=⟨pv h1 h4 h5 h6 h7⟩
theorem ba{X:Cx}(h5:Gl X x)(h6:X.mg x=some u)(h7:RelV v u)(h8:autoParam ((x==Str.ofString "__debug__")=false) qau._auto_1):QE X (Expr.Name x pos) (tC v):=⟨Hc h5 h6 h7 h8⟩
theorem sq{X:Cx}(h5:Gl X x)(h6:X.mg x=none)(h7:bootBuiltins x=some u)(h8:RelV v u)(h9:autoParam (x≠Str.ofString "__name__") qau._auto_1)(h10:autoParam ((x==Str.ofString "__debug__")=false) qau._auto_1):QE X (Expr.Name x pos) (tC v):=⟨GL h5 h6 h7 h8 h9 h10⟩
theorem Km(h4:QE X a ta):QE X (Expr.UnaryOp UnaryOp.Not a pos) (FJ ta):=⟨JI h4.out⟩
theorem mi{r:V->Hp->VK->Prop}(h6:UnR X (unaryOp op) r)(h7:QE X a ta):QE X (Expr.UnaryOp op a pos) (tUn r ta):=⟨Ml h6 h7.out⟩
theorem aF(h8:OpR X (binaryOp op) r)(h9:QE X a ta)(h10:QE X b tb):QE X (Expr.BinOp a op b pos) (tOp r ta tb):=⟨LP h8 h9.out h10.out⟩
theorem gy(h8:OpR X (compareOp op) r)(h9:QE X a ta)(h10:QE X b tb)(h11:behindInMarks op b=false):QE X (Expr.Compare a [op] [b] pos) (tOp r ta tb):=⟨HX h8 h9.out h10.out h11⟩
theorem Ef(h12:OpR X (compareOp op) r)(h13:OpR X (compareOp op') r')(h14:QE X a ta)(h15:QE X b tb)(h16:QE X c tc)(h17:autoParam (lastMarks [op,op'] [b,c]=false) qau._auto_1):QE X (Expr.Compare a [op,op'] [b,c] pos) (vI r r' ta tb tc):=⟨Fe h12 h13 h14.out h15.out h16.out h17⟩
theorem Fx(h5:QE X a t):QE X (Expr.BoolOp op [a] pos) t:=⟨Kv h5.out⟩
theorem Fb{X:Cx}{a:Expr}{b:Expr}{ta:TE}{tb:TE}{pos:Pos}{rest:List Expr}(h7:QE X a ta)(h8:QE X (Expr.BoolOp BoolOp.And (b ::rest) pos) tb):QE X (Expr.BoolOp BoolOp.And (a ::b ::rest) pos) (F5 ta tb):=⟨Kw h7.out h8.out⟩
theorem cP(h8:QT X c tA)(h9:QE X a ta)(h10:QE X b tb):QE X (Expr.IfExp c a b pos) (tIf tA ta tb):=⟨E0 h8.out h9.out h10.out⟩
theorem aQ(h4:QA X es t):QE X (Expr.List es pos) (HN t):=⟨JB h4.out⟩
theorem cA(h5:QA X es t):QE X (Expr.Tuple es x1 pos) (Lx t):=⟨JZ h5.out⟩
theorem oV{X:Cx}{e:Expr}{te:TE}{lo:Option Expr}{hi:Option Expr}{tl:TO}{th:TO}{pos:Pos}{p2:Pos}{r:V->Option Int->Option Int->Hp->VK->Prop}(h10:SlR X r)(h11:QE X e te)(h12:QO X lo tl)(h13:QO X hi th):QE X (Expr.Subscript e (Expr.Slice lo hi none p2) pos) (tSl r te tl th):=⟨Ej h10 h11.out h12.out h13.out⟩
theorem LS(h7:IxR X r)(h8:QE X a ta)(h9:QE X b tb)(h10:yG b):QE X (Expr.Subscript a b pos) (tOp r ta tb):=⟨L0 h7 h8.out h9.out h10⟩
theorem lP{X:Cx}{cl:List (Str×Addr)}(h12:lu X scope cl M ι x)(h13:X.calm=true)(h14:QI X (Expr.Name x px) iter wi)(h15:∀(C:Addr) (s₀:Shared) (H₀:Hp) (ex:List Addr),QE (blk X scope cl (M++[x]) C s₀ H₀ ex) elt te)(h16:autoParam (∀(v:Value),foldedSetIterable iter X.env v=pure v) qau._auto_1):QE X (Expr.ListComp elt [Comprehension.mk (Expr.Name x px) iter [] 0] scope pos) (uf wi ι te):=⟨HU h12 h13 h14.out (fun z0 z1 z2 z3=>(h15 z0 z1 z2 z3).out) h16⟩
theorem El{X:Cx}{x:Str}(h15:cp X.prog X.w X.K X.mg X.base (CXE X.prog X.w) k f fd ps sp)(h16:ik k X.A)(h17:Gl X x)(h18:X.mg x=some (Value.ref f))(h19:PySem.W.keepIn X.K (Value.ref f)=true)(h20:Binds X.K fd ps ds)(h21:Vals dvs ds)(h22:Thr X W)(h23:QA X (e ::es) t)(h24:autoParam ((x==Str.ofString "__debug__")=false) qau._auto_1)(h25:autoParam (starEach (e ::es) X.env=(false,eval e X.env) ::starEach es X.env) qau._auto_1)(h26:autoParam ((List.any (backTo pos (starEach es X.env)) fun x=>x.fst)=false) qau._auto_1):QE X (Expr.Call (Expr.Name x p) (e ::es) [] pos) (q8 sp dvs W t):=⟨Fh h15 h16 h17 h18 h19 h20 h21 h22 h23.out h24 h25 h26⟩
theorem ji{X:Cx}{x:Str}{p:Pos}{pos:Pos}{e:Expr}{es:List Expr}{t:TA}{id:String}{r:List V->Hp->VK->Prop}(h9:oI X (Value.builtin id) r)(h10:Gl X x)(h11:X.mg x=none)(h12:bootBuiltins x=some (Value.builtin id))(h13:QA X (e ::es) t)(h14:autoParam (x≠Str.ofString "__name__") qau._auto_1)(h15:autoParam ((x==Str.ofString "__debug__")=false) qau._auto_1)(h16:autoParam (starEach (e ::es) X.env=(false,eval e X.env) ::starEach es X.env) qau._auto_1)(h17:autoParam ((List.any (backTo pos (starEach es X.env)) fun x=>x.fst)=false) qau._auto_1):QE X (Expr.Call (Expr.Name x p) (e ::es) [] pos) (tCB r t):=⟨Fq h9 h10 h11 h12 h13.out h14 h15 h16 h17⟩
theorem hE{X:Cx}{x:Str}{r:List V->Hp->VK->Prop}(h9:oI X (Value.type T) r)(h10:Gl X x)(h11:X.mg x=none)(h12:bootBuiltins x=some (Value.type T))(h13:QA X (e ::es) t)(h14:autoParam (x≠Str.ofString "__name__") qau._auto_1)(h15:autoParam ((x==Str.ofString "__debug__")=false) qau._auto_1)(h16:autoParam (starEach (e ::es) X.env=(false,eval e X.env) ::starEach es X.env) qau._auto_1)(h17:autoParam ((List.any (backTo pos (starEach es X.env)) fun x=>x.fst)=false) qau._auto_1):QE X (Expr.Call (Expr.Name x p) (e ::es) [] pos) (tCB r t):=⟨DJ h9 h10 h11 h12 h13.out h14 h15 h16 h17⟩
theorem IU{X:Cx}{o:Expr}{e:Expr}{es:List Expr}{to:TE}{t:TA}{name:Str}{apos:Pos}{cpos:Pos}{T:String}{id:String}{r:V->List V->Hp->VK->Prop}(h12:PlainAttrs T)(h13:Slot T name id)(h14:typeOf (Value.builtin id)=pure (Value.type "method_descriptor"))(h15:MtR X id r)(h16:QE X o to)(h17:QA X (e ::es) t)(h18:autoParam (attributeBase o name X.env (eval o X.env)=eval o X.env) qau._auto_1)(h19:autoParam ((((List.all (backTo cpos (starEach (e ::es) X.env)) fun x=>!x.fst)&&List.all (backToKw cpos (keywordEach [] X.env)) fun x=>Option.isSome x.fst)&&Decidable.decide ((List.length (e ::es)+List.length ([]:List Keyword)+if List.isEmpty ([]:List Keyword)=true then 0 else 1)<30))=true) qau._auto_1)(h20:autoParam ((apos.endLine==cpos.line)=true) qau._auto_1)(h21:autoParam (starEach (e ::es) X.env=(false,eval e X.env) ::starEach es X.env) qau._auto_1)(h22:autoParam ((List.any (backTo cpos (starEach es X.env)) fun x=>x.fst)=false) qau._auto_1):QE X (Expr.Call (Expr.Attribute o name apos) (e ::es) [] cpos) (tBM X.K T r to t):=⟨L7 h12 h13 h14 h15 h16.out h17.out h18 h19 h20 h21 h22⟩
theorem Bn{X:Cx}{o:Expr}{to:TE}{name:Str}{apos:Pos}{cpos:Pos}{T:String}{id:String}{r:V->List V->Hp->VK->Prop}(h9:PlainAttrs T)(h10:Slot T name id)(h11:typeOf (Value.builtin id)=pure (Value.type "method_descriptor"))(h12:MtR X id r)(h13:QE X o to)(h14:autoParam (attributeBase o name X.env (eval o X.env)=eval o X.env) qau._auto_1)(h15:autoParam ((apos.endLine==cpos.line)=true) qau._auto_1):QE X (Expr.Call (Expr.Attribute o name apos) [] [] cpos) (Gu X.K T r to):=⟨Lo h9 h10 h11 h12 h13.out h14 h15⟩
theorem sG:QO X none xI:=⟨HK ⟩
theorem r9(h3:QE X e te):QO X (some e) (Fs te):=⟨Ie h3.out⟩
theorem av:QA X [] kL:=⟨Lg ⟩
theorem aa(h5:QE X e te)(h6:QA X es t)(h7:autoParam (isStar e=false) qau._auto_1):QA X (e ::es) (iY te t):=⟨D6 h5.out h6.out h7⟩
theorem iD(h8:OpR X (compareOp op) r)(h9:QE X a ta)(h10:QE X b tb)(h11:behindInMarks op b=false):QT X (Expr.Compare a [op] [b] pos) (xh (tOp r ta tb)):=⟨Hh h8 h9.out h10.out h11⟩
theorem ja(h12:OpR X (compareOp op) r)(h13:OpR X (compareOp op') r')(h14:QE X a ta)(h15:QE X b tb)(h16:QE X c tc)(h17:autoParam (lastMarks [op,op'] [b,c]=false) qau._auto_1):QT X (Expr.Compare a [op,op'] [b,c] pos) (xh (vI r r' ta tb tc)):=⟨Fv h12 h13 h14.out h15.out h16.out h17⟩
theorem FZ(h4:QT X a tA):QT X (Expr.UnaryOp UnaryOp.Not a pos) (Hw tA):=⟨Ks h4.out⟩
theorem cb{X:Cx}(h3:QE X a ta)(h4:∀(whole:Sem Value),
 isTrue a X.env whole=do
  let v <- whole
  standAt (Expr.pos a)
  holding [v] (truthy v)):QT X a fun σ H Q=>ta σ H fun x H'=>∃ k,AY X.K x H' k /\ Q k H':=⟨ES h3.out h4⟩
theorem jz(h3:QW X e t):QT X e t:=⟨PW.pt h3.out⟩
theorem i8(h4:QT X a tA):QW X (Expr.BoolOp BoolOp.And [a] pos) tA:=⟨HF h4.out⟩
theorem rH(h4:QT X a tA):QW X (Expr.BoolOp BoolOp.Or [a] pos) tA:=⟨Jq h4.out⟩
theorem i5{X:Cx}{a:Expr}{b:Expr}{pos:Pos}{tA:TT}{tB':TT}{rest:List Expr}(h7:QT X a tA)(h8:QW X (Expr.BoolOp BoolOp.And (b ::rest) pos) tB'):QW X (Expr.BoolOp BoolOp.And (a ::b ::rest) pos) (KQ tA tB'):=⟨Jk h7.out h8.out⟩
theorem uu{X:Cx}{a:Expr}{b:Expr}{pos:Pos}{tA:TT}{tB':TT}{rest:List Expr}(h7:QT X a tA)(h8:QW X (Expr.BoolOp BoolOp.Or (b ::rest) pos) tB'):QW X (Expr.BoolOp BoolOp.Or (a ::b ::rest) pos) (tOr tA tB'):=⟨LX h7.out h8.out⟩
theorem nh{X:Cx}(h6:Gl X (Str.ofString "range"))(h7:X.mg (Str.ofString "range")=none)(h8:QA X [a] ta)(h9:autoParam (starEach [a] X.env=[(false,eval a X.env)]) qau._auto_1):QI X tg (Expr.Call (Expr.Name (Str.ofString "range") p) [a] [] pos) (BW ta):=⟨Dh h6 h7 h8.out h9⟩
theorem g9{X:Cx}(h4:QE X l tl):QI X tg l (zu X.K tl):=⟨GO h4.out⟩
theorem Lc{X:Cx}(h4:QE X l tl):QI X tg l (JY X.K tl):=⟨Ju h4.out⟩
theorem JM{X:Cx}{pos:Pos}(h7:List.Nodup X.N)(h8:X.N[i]?=some x)(h9:Loc X.env.scope x)(h10:QE X e te)(h11:autoParam (swapsWith e (some (Expr.Name x pos')) pos.line X.env=pure false) qau._auto_1)(h12:autoParam (X.fn x=true \/ List.lookup x X.env.scope.names=some NameKind.local) qau._auto_1):QS X (Stmt.Assign [Expr.Name x pos'] e pos) (tW te (kh i)):=⟨Ke h7 h8 h9 h10.out h11 h12⟩
theorem yz{X:Cx}{pos:Pos}(h6:QE X e te)(h7:QG X tg g)(h8:autoParam (swapsWithSole [tg] e pos.line X.env=pure false) qau._auto_1)(h9:autoParam (swappedStores [tg] e X.env=pure none) qau._auto_1)(h10:autoParam (List.map (fun x=>x.snd) (assignEach [tg] X.env)=[assign tg X.env]) qau._auto_1):QS X (Stmt.Assign [tg] e pos) (tW te g):=⟨JN h6.out h7.out h8 h9 h10⟩
theorem aT(h8:QT X c tc)(h9:QSs X a t)(h10:QSs X b u):QS X (Stmt.If c a b pos) (HR tc t u):=⟨Mu h8.out h9.out h10.out⟩
theorem aA(h4:QE X e te):QS X (Stmt.Return (some e) pos) (GR te):=⟨K6 h4.out⟩
theorem yH{X:Cx}{pos:Pos}(h4:QE X e te)(h5:autoParam (swapsWith e none pos.line X.env=pure false) qau._auto_1):QS X (Stmt.Expr e pos) (sT te):=⟨G9 h4.out h5⟩
theorem wm{X:Cx}(h6:PassesOwn (model X.prog X.w) X.A X.env X.xe)(h7:QT X c tc)(h8:QSs X body tb):QS X (Stmt.While c body [] pos) (AE tc tb):=⟨E5 h6 h7.out h8.out⟩
theorem mM{X:Cx}(h8:PassesOwn (model X.prog X.w) X.A X.env X.xe)(h9:X.calm=true)(h10:QI X tg iter wi)(h11:QG X tg g)(h12:QSs X body tb)(h13:autoParam (∀(x:Value),foldedSetIterable iter X.env x=pure x) qau._auto_1):QS X (Stmt.For tg iter body [] pos) (EN wi g tb):=⟨KG h8 h9 h10.out h11.out h12.out h13⟩
theorem i9{X:Cx}(h4:List.Nodup X.N)(h5:X.N[i]?=some x)(h6:Loc X.env.scope x)(h7:autoParam (X.fn x=true \/ List.lookup x X.env.scope.names=some NameKind.local) qau._auto_1):QG X (Expr.Name x pos) (kh i):=⟨HG h4 h5 h6 h7⟩
theorem aE:QSs X [] DS:=⟨G7 ⟩
theorem au{X:Cx}{st:Stmt}{t:TS}(h3:QS X st t):QSs X [st] t:=⟨GZ h3.out⟩
theorem aj{X:Cx}{st:Stmt}{rest:List Stmt}{t:TS}{u:TS}(h5:QS X st t)(h6:QSs X rest u):QSs X (st ::rest) (K7 t u):=⟨Gb h5.out h6.out⟩
end L2.E
namespace L2.P
open PySem PySem.Spec PyProof.Rows L2 L2.E
theorem fG{K:PySem.W.Frag}{cls:String->Option Addr}{P:Program}{w:World}{mg:Str->Option Value}{base:Heap}{x qual:Str}{st:Stmt}{f:Addr}{fd:FuncData}{N ps:List Str}{k:Nat}{m:ag->OS}(F:Fun K x qual st f fd)(Sc:aW N ps (aC st))
  (hbody:∀(cdv:Value) (A:Around) (outer:List Env) (s:Shared) (H:Hp) (E:XK),ik k (A.deeper (envOfC qual (aC st) s.heap.objs.size f cdv)) ->
    ∃ t,QSs (tT (CXE P w) P w K mg base N qual (aC st) f cdv A outer s H E) (dF st) t /\ JS K cls (fun C a _ H=>∀ H',aK H H'->E C a H') t m):cp P w K mg base (CXE P w) (k+1) f fd ps (spP K cls (fnP ps.length N.length m)):=
 Nw F Sc fun cdv A outer s H E hr=>let ⟨t,h1,h2⟩:=hbody cdv A outer s H E hr;⟨t,h1.out,h2⟩
end L2.P
namespace L2.E
open PySem PySem.Spec PyProof.Rows L2
end L2.E
namespace L2.P
open PySem PySem.Spec PyProof.Rows L2 L2.E
end L2.P
namespace L2.E
open PySem PySem.Spec PyProof.Rows L2
section
variable{prog:Program}{w:World}{A:Around}{E:Value->Shared->Prop}{s:Shared}{K:PySem.W.Frag}{x C:Addr}{name:Str}{v:Value}
open PySem.W in
open PySem.W in
end
def L3(a C:Addr)(dx:Option Addr)(h:Heap):Prop:=∃ o t,h.get? a=some o /\ o.cls=.ref C /\ o.dict=dx /\ o.data=.fields #[.ref t,.none,.none,.none,.bool false,.none]
theorem L3.exc{a C:Addr}{dx:Option Addr}{h:Heap}(x:L3 a C dx h):JG a C dx h:=let ⟨o,t,e,c,d,f⟩:=x;⟨o,_,e,c,d,f,rfl⟩
section
variable{prog:Program}{w:World}{A:Around}{E:Value->Shared->Prop}{s:Shared}{K:PySem.W.Frag}{x C:Addr}{name:Str}{v:Value}{tk:Tok}
open PySem.W in
end
section
variable{prog:Program}{w:World}{A:Around}{E:Value->Shared->Prop}{hh:Heap}{g:Array GenState}{d:Drawn}{t:Nat}{os:OsState}{K:PySem.W.Frag}{x C:Addr}{name:Str}{v:Value}{tk:Tok}
open PySem.W in
end
section
variable{prog:Program}{w:World}{A:Around}{E:Value->Shared->Prop}{s:Shared}{K:PySem.W.Frag}{x C:Addr}{name:Str}{v:Value}
open PySem.W in
end
section
variable{prog:Program}{w:World}{A:Around}{E:Value->Shared->Prop}{h:Heap}{g:Array GenState}{d:Drawn}{t:Nat}{os:OsState}{K:PySem.W.Frag}
variable{nm q:Str}{C N:Addr}{bs bm bmB:List Value}{hdct:Bool}{sn:List Str}{sub:List Value}{ab:Bool}{col:Option Bool}{dd:Option Addr}{k0 k1 k2 k3 k5:Option Value}{B newId initId:String}
open PySem.W in
open PySem.W in
end
theorem yn{X:Cx}{o i:Expr}{to ti:TE}{t:HZ}{pos:Pos}(ho:QE X o to)(hi:QE X i ti)(hs:Ln X t)
  (ha:∀ v,assign (.Subscript o i pos) X.env v=(do
    let ov <- holding [v] (eval o X.env)
    let iv <- holding [v,ov] (eval i X.env)
    standAt pos
    holding [v,ov,iv] (setItem ov iv v)
    release [v,ov,iv] []):=by intro _;rfl):QG X (.Subscript o i pos) (Ls to ti t):=⟨Kp ho.out hi.out hs ha⟩
end L2.E
namespace L2.P
open PySem PySem.Spec PyProof.Rows L2 L2.E
end L2.P
namespace L2.P
open PySem
inductive Stp where
 |ix (k:Nat)|fd (f:Str)
def pd:List Str->List OV->Str->Option OV
 |k ::ks,t ::ts,f=>if k=f then some t else pd ks ts f
 |_,_,_=>none
def wI:List Str->List OV->Str->OV->List OV
 |k ::ks,t ::ts,f,u=>if k=f then u ::ts else t ::wI ks ts f u
 |_,ts,_,_=>ts
def OV.at1:OV->Stp->Option OV
 |.ol ts,.ix k=>ts[k]?
 |.ob _ ks ts,.fd f=>pd ks ts f
 |_,_=>none
def OV.ky:OV->Stp->OV->OV
 |.ol ts,.ix k,u=>.ol (ts.set k u)
 |.ob c ks ts,.fd f,u=>.ob c ks (wI ks ts f u)
 |t,_,_=>t
def OV.get:OV->List Stp->Option OV
 |t,[]=>some t
 |t,s ::π=>(t.at1 s).bind fun u=>u.get π
def OV.put:OV->List Stp->OV->OV
 |_,[],u=>u
 | t,s ::π,u=>match t.at1 s with
   |some t'=>t.ky s (t'.put π u)
   |none=>t
def slT:Sl->Option OV
 |.tr _ t=>some t
 |.bo t=>some t
 |_=>none
def fU(i:Nat)(ρ:ag):Option OV:=match ρ[i]? with
 |some (some s)=>slT s
 |_=>none
abbrev MP:=ag->Option (List Stp)
def aI:MP:=fun _=>some []
def pIx(i:Nat)(mp:MP)(mk:ag->OE):MP:=fun ρ=>match fU i ρ with
 | some t=>(match mp ρ with
   | some π=>(match t.get π with
     | some (.ol ts)=>(match mk ρ with
       | .ok r=>(match r.pv with
         |.int k=>(ixP ts.length k).map fun j=>π++[.ix j]
         |_=>none)
       |_=>none)
     |_=>none)
   |none=>none)
 |none=>none
def subAt(i:Nat)(mp:MP)(ρ:ag):Option OV:=match fU i ρ with
 | some t=>(match mp ρ with
   |some π=>t.get π
   |none=>none)
 |none=>none
def pFd(i:Nat)(mp:MP)(f:Str)(ok:String->Bool):MP:=fun ρ=>match subAt i mp ρ with
 |some (.ob c ks ts)=>if(ok c&&(pd ks ts f).isSome)=true then(mp ρ).map fun π=>π++[.fd f]else none
 |_=>none
def vK:List OV->Option (List PV)
 |[]=>some []
 |.sh x ::r=>(vK r).map (x ::·)
 |_ ::_=>none
@[simp] theorem tJ(xs:List PV):vK (xs.map .sh)=some xs:=by
  induction xs with
  |nil=>rfl
  |cons x xs ih=>show(vK (xs.map .sh)).map (x ::·)=_;rw[ih];rfl
def cF(i:Nat)(mp:MP):ag->OE:=fun ρ=>match subAt i mp ρ with
 |some (.sh x)=>.ok (.sh x)
 | some (.ol ts)=>(match vK ts with
   |some xs=>.ok (.al xs)
   |none=>.bad)
 |_=>.bad
def du(i:Nat)(mp:MP):ag->OT:=fun ρ=>match subAt i mp ρ with
 |some (.ol ts)=>.ok (!ts.isEmpty)
 |_=>.bad
def gd(i:Nat)(mp:MP):ag->OE:=fun ρ=>match subAt i mp ρ with
 |some (.ol ts)=>.ok (.sh (.int ts.length))
 |_=>.bad
inductive OD where
 |ok (t:OV)|exc (c:String) (fs:XF)|bad
inductive ODs where
 |ok (ts:List OV)|exc (c:String) (fs:XF)|bad
def mD(me:ag->OE):ag->OD:=fun ρ=>match me ρ with
 |.ok (.sh x)=>.ok (.sh x)
 |.ok (.fr xs)=>.ok (.ol (xs.map .sh))
 |.ok (.al _)=>.bad
 |.exc c fs=>.exc c fs
 |.bad=>.bad
def mDn:ag->ODs:=fun _=>.ok []
def mDc(md:ag->OD)(mr:ag->ODs):ag->ODs:=fun ρ=>match md ρ with
 | .ok t=>(match mr ρ with
   |.ok ts=>.ok (t ::ts)
   |.exc c fs=>.exc c fs
   |.bad=>.bad)
 |.exc c fs=>.exc c fs
 |.bad=>.bad
def mDl(mr:ag->ODs):ag->OD:=fun ρ=>match mr ρ with
 |.ok ts=>if ts.length<=lim then .ok (.ol ts)else .bad
 |.exc c fs=>.exc c fs
 |.bad=>.bad
def j6(i:Nat)(md:ag->OD):ag->OS:=fun ρ=>match md ρ with
 |.ok t=>.nx (ρ.set i (some (.tr false t)))
 |.exc c fs=>.exc ρ c fs
 |.bad=>.bad
def tq(i:Nat)(mp:MP)(ρ:ag)(k:OV->(OV->ag)->OS):OS:=match ρ[i]? with
 | some (some (.tr io t))=>(match mp ρ with
   | some π=>(match t.get π with
     |some u=>k u fun u'=>ρ.set i (some (.tr io (t.put π u')))
     |none=>.bad)
   |none=>.bad)
 |_=>.bad
def b0(i:Nat)(mp:MP)(md:ag->OD):ag->OS:=fun ρ=>tq i mp ρ fun u put=>match u with
 | .ol ts=>(match md ρ with
   |.ok x=>if ts.length<lim then .nx (put (.ol (ts++[x])))else .bad
   |.exc c fs=>.exc ρ c fs
   |.bad=>.bad)
 |_=>.bad
def pB(i:Nat)(mp:MP)(mk:ag->OE)(md:ag->OD):ag->OS:=fun ρ=>match md ρ with
 | .ok x=>tq i mp ρ fun u put=>(match u with
   | .ol ts=>(mk ρ).cW ρ fun r=>(match r.pv with
     | .int k=>(match ixP ts.length k with
       |some j=>.nx (put (.ol (ts.set j x)))
       |none=>.bad)
     |_=>.bad)
   |_=>.bad)
 |.exc c fs=>.exc ρ c fs
 |.bad=>.bad
def FU(i:Nat)(mp:MP)(f:Str)(okc:String->Bool)(md:ag->OD):ag->OS:=fun ρ=>match md ρ with
 | .ok x=>tq i mp ρ fun u put=>(match u with
   |.ob c ks ts=>if(okc c&&decide (ks.length<1000))=true then(if ks.contains f=true then .nx (put (.ob c ks (wI ks ts f x)))else .nx (put (.ob c (ks++[f]) (ts++[x]))))else .bad
   |_=>.bad)
 |.exc c fs=>.exc ρ c fs
 |.bad=>.bad
inductive OX where
 |ok (ρ:ag) (s:Sl)|exc (ρ:ag) (c:String) (fs:XF)|bad
def slO:OV->Sl
 |.sh x=>.sh x
 |t=>.tr false t
def qr(i:Nat)(mp:MP):ag->OX:=fun ρ=>match ρ[i]? with
 | some (some (.tr io t))=>(match mp ρ with
   | some π=>(match t.get π with
     | some (.ol ts)=>(match ts.getLast? with
       |some x=>.ok (ρ.set i (some (.tr io (t.put π (.ol ts.dropLast))))) (slO x)
       |none=>.bad)
     |_=>.bad)
   |none=>.bad)
 |_=>.bad
def nio:Sl->Bool
 |.tr true _=>false
 |.bo _=>false
 |_=>true
def hX(i:Nat)(m:ag->OX):ag->OS:=fun ρ=>match m ρ with
 |.ok ρ' s=>if nio s then .nx (ρ'.set i (some s))else .bad
 |.exc ρ' c fs=>.exc ρ' c fs
 |.bad=>.bad
def He(neg:Bool)(m:ag->OX)(a b:ag->OS):ag->OS:=fun ρ=>match m ρ with
 | .ok ρ' (.sh x)=>(match ud x with
   |some k=>if(k != neg)=true then a ρ' else b ρ'
   |none=>.bad)
 |.ok _ _=>.bad
 |.exc ρ' c fs=>.exc ρ' c fs
 |.bad=>.bad
mutual
def pvO:OV->Option PV
 |.sh x=>some x
 |.ol ts=>(uG ts).map .lst
 |.ob _ _ _=>none
 |.di _=>none
 |.dt _=>none
def uG:List OV->Option (List PV)
 |[]=>some []
 |t ::ts=>(pvO t).bind fun x=>(uG ts).map (x ::·)
end
def nz(i:Nat)(ρ:ag):ag:=match ρ[i]? with
 | some (some (.tr false t))=>(match pvO t with
   |some x=>ρ.set i (some (.sh x))
   |none=>ρ)
 |_=>ρ
def lB(i:Nat)(m:ag->OS):ag->OS:=fun ρ=>m (nz i ρ)
inductive OI where
 |ok (x:PV) (outs:List (Option OV))|exc (c:String) (fs:XF) (outs:List (Option OV))|bad
inductive Arg where
 |e (me:ag->OE)|t (i:Nat) (mp:MP)|b (i:Nat) (mp:MP)
def pA:Option Sl->Option OV
 |some (.tr true t)=>some t
 |_=>none
def tX(np:Nat):OS->OI
 |.nx ρ=>.ok .non ((ρ.take np).map pA)
 |.rt ρ (.sh x)=>.ok x ((ρ.take np).map pA)
 |.exc ρ c fs=>.exc c fs ((ρ.take np).map pA)
 |_=>.bad
def km(n:Nat)(as:List Sl):ag:=as.map some++List.replicate (n - as.length) none
def fnI(np n:Nat)(m:ag->OS)(as:List Sl):OI:=if as.length=np then tX np (m (km n as))else .bad
def kn(a:Arg)(ρ:ag):Option Sl:=match a with
 | .e me=>(match me ρ with
   |.ok r=>(m4 r).map .sh
   |_=>none)
 | .t i mp=>(match ρ[i]? with
   |some (some (.tr _ t))=>((mp ρ).bind fun π=>t.get π).map (.tr true)
   |_=>none)
 |.b i mp=>(subAt i mp ρ).map .bo
def i0:List Arg->ag->Option (List Sl)
 |[],_=>some []
 |a ::as,ρ=>(kn a ρ).bind fun s=>(i0 as ρ).map (s ::·)
def jA(ρ₀:ag):Arg->Option OV->ag->ag
 | .t i mp,some u,ρ=>(match ρ[i]? with
   | some (some (.tr io t))=>(match mp ρ₀ with
     |some π=>ρ.set i (some (.tr io (t.put π u)))
     |none=>ρ.set i none)
   |_=>ρ.set i none)
 |.t i _,none,ρ=>ρ.set i none
 |_,_,ρ=>ρ
def fj(ρ₀:ag):List Arg->List (Option OV)->ag->ag
 |[],_,ρ=>ρ
 |a ::as,us,ρ=>fj ρ₀ as us.tail (jA ρ₀ a us.head?.join ρ)
def iS(f:List Sl->OI)(as:List Arg):ag->OX:=fun ρ=>match i0 as ρ with
 | some ss=>(match f ss with
   |.ok x outs=>.ok (fj ρ as outs ρ) (.sh x)
   |.exc c fs outs=>.exc (fj ρ as outs ρ) c fs
   |.bad=>.bad)
 |none=>.bad
def yt(f:List Sl->OI)(as:List Arg):ag->OE:=fun ρ=>match i0 as ρ with
 | some ss=>(match f ss with
   |.ok x _=>.ok (.sh x)
   |.exc c fs _=>.exc c fs
   |.bad=>.bad)
 |none=>.bad
def recv(c:String)(m:Str):Option Sl->Bool
 |some (.tr true (.ob c' ks _))=>c'==c && !ks.contains m
 |some (.bo (.ob c' ks _))=>c'==c && !ks.contains m
 |_=>false
def lp(c:String)(m:Str)(f:List Sl->OI)(as:List Arg):ag->OX:=fun ρ=>match as with
 |a ::_=>if recv c m (kn a ρ)=true then iS f as ρ else .bad
 |[]=>.bad
def nZ(c:String)(m:Str)(f:List Sl->OI)(as:List Arg):ag->OE:=fun ρ=>match as with
 |a ::_=>if recv c m (kn a ρ)=true then yt f as ρ else .bad
 |[]=>.bad
def sA(c:String)(f:List Sl->OI):ag->OD:=fun _=>match f [.tr true (.ob c [] [])]with
 |.ok .non (some t ::_)=>.ok t
 |_=>.bad
def n9(i j:Nat)(mb:ag->OS):List PV->ag->OS
 |[],ρ=>.nx ρ
 |.tup [x,y] ::xs,ρ=>(mb ((ρ.set i (some (.sh x))).set j (some (.sh y)))).turn (n9 i j mb xs)
 |_ ::_,_=>.bad
def uq(k:Nat):List PV->List PV
 |[]=>[]
 |x ::xs=>.tup [.int k,x] ::uq (k+1) xs
def BJ(i j:Nat)(ml:ag->OE)(mb:ag->OS):ag->OS:=fun ρ=>(ml ρ).cW ρ fun r=>match zt r with
 |some xs=>n9 i j mb (uq 0 xs) ρ
 |none=>.bad
def wj(ml:ag->OE)(ι:List Nat)(me:ag->OE):ag->OE:=fun ρ=>(ml ρ).bind fun r=>match r.pv with
 |.tup xs=>noX (dg me (cX ι ρ) xs)
 |_=>.bad
def gf(mc:ag->OT)(me:ag->OE)(ρ:ag):List PV->OA
 |[]=>.ok []
 | x ::xs=>(match mc (ρ++[some (.sh x)])with
   | .ok true=>(me (ρ++[some (.sh x)])).fI fun r=>(match m4 r with
     |some y=>(gf mc me ρ xs).fI fun ys=>.ok (y ::ys)
     |none=>.bad)
   |.ok false=>gf mc me ρ xs
   |_=>.bad)
def j9(ml:ag->OE)(ι:List Nat)(mc:ag->OT)(me:ag->OE):ag->OE:=fun ρ=>(ml ρ).bind fun r=>match r.pv with
 |.lst xs=>noX (gf mc me (cX ι ρ) xs)
 |_=>.bad
def DI(ma ms:ag->OE):ag->OE:=fun ρ=>(ma ρ).bind fun a=>(ms ρ).bind fun k=>match a.pv,k.pv with
 |.lst xs,.int k=>if k=-1 then .ok (.fr xs.reverse)else .bad
 |_,_=>.bad
def mG:PV->Option RV
 |.lst xs=>some (.sh (.tup xs))
 |.tup xs=>some (.sh (.tup xs))
 |_=>none
mutual
def kz:PV->PV->Bool
 |.non,y=>(match y with|.non=>true|_=>false)
 |.bl a,y=>(match y with|.bl b=>a==b|.int j=>(if a then 1 else 0)==j|_=>false)
 |.int i,y=>(match y with|.bl b=>i==(if b then 1 else 0)|.int j=>i==j|_=>false)
 |.str x,y=>(match y with|.str z=>x==z|_=>false)
 |.lst xs,y=>(match y with|.lst ys=>EZ xs ys|_=>false)
 |.tup xs,y=>(match y with|.tup ys=>EZ xs ys|_=>false)
def EZ:List PV->List PV->Bool
 |[],ys=>(match ys with|[]=>true|_ ::_=>false)
 |x ::xs,ys=>(match ys with|y ::ys=>kz x y&&EZ xs ys|[]=>false)
end
def eT:PV->Bool
 |.lst _=>false
 |.tup _=>false
 |_=>true
def n8:PV->PV->Option Bool
 |x,.tup ys=>if ys.all eT=true then some (ys.any fun y=>kz y x)else none
 |x,.lst ys=>if ys.all eT=true then some (ys.any fun y=>kz y x)else none
 |_,_=>none
def gIn:PV->PV->Option RV:=fun x y=>(n8 x y).map fun b=>.sh (.bl b)
def tY:PV->PV->Option RV:=fun x y=>(n8 x y).map fun b=>.sh (.bl (!b))
def gz(kvs:List (Int×PV)):PV->Option RV
 |.int n=>some (.sh ((kvs.lookup n).getD .non))
 |_=>none
end L2.P
namespace L2
open PySem PySem.Spec PyProof.Rows
section
variable{X:Cx}{pins:List (Addr×Obj)}{σ:St}{H:Hp}{s:Shared}{h':Heap}
theorem Inv.DC{t':Nat}{its:List Addr}{a:Addr}{o:HO}(I:Inv X pins σ H s)(k:∀ b u,b∉its->s.heap.get? b=some u->h'.get? b=some u)(hf:∀ b∈its,ni X pins H b)
  (hp:s.heap.objs.size<=a) (new:gq X.prog X.w (upd H a o) h' a o):Inv X pins σ (upd H a o) { s with heap:=h',toks:=t' }:=by
 have hn:=I.hok.fresh hp
 have nit:∀ b u,H b=some u->b∉its:=fun b u e z=>by rw[(hf b z).1]at e;cases e
 refine I.step (g':=s.gens) (d':=s.drawn) (ch:=its) (fun b hb=>?_) (fun b u _ _ hc e _=>k b u hc e) (fun b u _ _ hc e _=>⟨u.slots,k b u hc e⟩)
  (fun b u _ q n=>by rw[bL (Nat.ne_of_lt (Nat.lt_of_lt_of_le (Heap.lt_size q) hp))];exact n)
  (fun b u hc e=>⟨u,k b u hc e⟩) (fun b xs q=>by rw[bL (eO q hn)];exact q) (fun b u xs q=>by rw[bL (eO q hn)];exact q) (fun b ps q=>⟨#[],by rw[bL (eO q hn),q];simp⟩) (fun m hm=>?_) (fun b u e=>?_) I.bare
 . obtain⟨_,f1,f2,f3,f4,f5⟩:=hf b hb
   exact⟨f3,f1,f4,f5⟩
 . obtain⟨ob,es,ep,ho,r⟩:=hm
   exact⟨ob,es,ep,k _ ob (fun z=>(hf _ z).2.1 rfl) ho,r⟩
 . by_cases hb:b=a
   . subst hb;rw[bQ]at e;cases e;exact new
   . rw[bL hb]at e
     refine(I.hok b u e).uD (fun c v hc q=>k c v ?_ q) (fun c q=>by rw[bL (eO q hn)];exact q) fun c xs q=>by rw[bL (eO q hn)];exact q
     rcases hc with z|z
     . rw[z];exact nit b u e
     . exact nit c _ z
end
def Ite(K:PySem.W.Frag)(a:Addr):It:=
 ⟨fun i H=>∃ xs x,SqL K H a xs /\ xs[i]?=some x,fun i H v H'=>∃ t x,(∀ xs,SqL K H a xs->xs[i]?=some x) /\ H t=none /\ v=.ref t /\ H'=upd H t (.tup [.int i,x]),fun i H=>∃ xs,SqL K H a xs /\ xs.length<=i⟩
theorem Di{P:Program}{w:World}{K:PySem.W.Frag}{elts:List Expr}{k:Nat}{pos:Pos}(a e it:Addr)(hei:e≠it):
  Turn P w K (.Tuple elts k pos) (Ite K a) [e,it] e (fun i h=>(∃ old,IsEnum h e it i old) /\ h.IsListIter it a i) where
 mem:=by simp
 obj:=fun i h st b hb=>by
  obtain⟨⟨old,h1⟩,o,h2,c,d⟩:=st
  rcases List.mem_cons.mp hb with z|z
  . subst z;exact⟨_,h1,fun v z=>by cases z⟩
  . have z':b=it:=by simpa using z
    subst z';exact⟨o,h2,fun v z=>by rw[d]at z;cases z⟩
 keep:=fun i h h' st k=>by
  obtain⟨⟨old,h1⟩,h2⟩:=st
  exact⟨⟨old,k e (by simp) _ h1⟩,h2.at fun o x=>k it (by simp) o x⟩
 item:=by
  intro X hP hw hK hc i pins s σ H E I hf st hg;subst hP hw hK;obtain⟨xs,x,hq,hx⟩:=hg;obtain⟨its,rv,p,hz⟩:=I.list hq;obtain⟨u,hu,ru⟩:=rv.get hx;obtain⟨⟨old,he⟩,hit⟩:=st
  refine wpAny_pyNext_enum_item he hit p.isList (x:=u) (by simpa using hu) hei fun h1 ho hit1 hT hsz hk=>⟨_,rfl,?_⟩
  refine wpAny_letOwnedTupleGo_enum ho fun h2 he2 hs2=>?_
  have hT2:h2.get? s.heap.objs.size=some { cls:=.type "tuple",data:=.seq #[.int i s.toks,u] }:=(hs2.2 _ (Nat.ne_of_gt (Heap.lt_size he))).trans hT
  have nH:H s.heap.objs.size=none:=I.hok.fresh (Nat.le_refl _)
  refine⟨.ref s.heap.objs.size,upd H s.heap.objs.size (.tup [.int i,x]),I.DC (its:=[e,it]) (t':=s.toks+1) (fun b o hb q=>?_) hf (Nat.le_refl _) ?_,rfl,⟨_,x,fun ys hy=>by rw[I.zc hy hq];exact hx,nH,rfl,rfl⟩,⟨⟨u,by simpa using he2⟩,?_⟩,fun b hb=>?_⟩
  . have nb:b≠e /\ b≠it:=by simpa using hb
    exact(hs2.2 b nb.1).trans (hk b o nb.1 nb.2 q)
  . exact⟨by show 2<=sizeLine;decide,[.int i s.toks,u],.cons ⟨_,rfl⟩ (.cons ru .nil),⟨_,hT2,rfl,_,rfl⟩⟩
  . exact hit1.at fun o y=>(hs2.2 it hei.symm).trans y
  . have:b < s.heap.objs.size:=by
     rcases List.mem_cons.mp hb with z|z
     . subst z;exact Heap.lt_size he
     . have z':b=it:=by simpa using z
       subst z';obtain⟨_,y,_⟩:=hit;exact Heap.lt_size y
    rw[bL (Nat.ne_of_lt this)]
    exact(hf b hb).1
 done:=by
  intro X hP hw hK hc i pins s σ H E I hf st hg;subst hP hw hK;obtain⟨xs,hq,hx⟩:=hg;obtain⟨its,rv,p,hz⟩:=I.list hq;obtain⟨⟨old,he⟩,hit⟩:=st;obtain⟨f0,f1,f2,f3,f4,f5⟩:=hf it (by simp);have hl:=rv.length
  exact wpAny_pyNext_enum_end (I.ok.hd hc) he hit p.isList (by simp;omega) fun h' eb=>⟨rfl,I.turned (t':=s.toks) (fun b o hb e=>eb b o hb e) f0 f1 f3 f4 f5⟩
 self:=fun _ _ _ _ _ st h=>by
  obtain⟨⟨old,he⟩,_⟩:=st;exact wpAny_pyIter_enum he h
section
variable{X:Cx}
def F7(K:PySem.W.Frag)(ta:TA):TI:=fun σ H R=>ta σ H fun vs H1=>∃ a,vs=[.ref a] /\ (∃ xs,SqL K H1 a xs) /\ R (Ite K a) H1
theorem Hu{elts:List Expr}{k:Nat}{tp:Pos}{a:Expr}{ta:TA}{p pos:Pos}(hg:Gl X "enumerate")(hm:X.mg "enumerate" = none)(ha:PA X [a] ta)(hs:starEach [a] X.env=[(false,eval a X.env)]:=by rfl):
  PI X (.Tuple elts k tp) (.Call (.Name "enumerate" p) [a] [] pos) (F7 X.K ta):=by
 intro pins s σ H R I h;refine Call_ (vW I hg hm (show bootBuiltins "enumerate" = some (.type "enumerate") by rfl) (PyProof.Rows.callWith_type1 (thn (ha pos pins s σ H _ I h) fun us s1 ⟨vs,H1,I1,r1,q1⟩=>?_) hs rfl));obtain⟨l,e,⟨xs,hq⟩,q⟩:=q1;subst e
 cases r1 with
 | cons r rr=>
   cases rr;cases r;obtain⟨its,rv,p,hz⟩:=I1.list hq
   refine call_enumerate_list p.isList fun h' he hit hsz hk=>?_
   refine wpAny_pyIter_enum he ?_
   have I2:Inv X pins σ H1 { s1 with heap:=h' }:=I1.kept (t':=s1.toks) hk
   refine⟨s1.heap.objs.size+1,[s1.heap.objs.size+1,s1.heap.objs.size],_,_,H1,rfl,I2,Di l _ _ (Nat.succ_ne_self _),⟨⟨.none,he⟩,hit⟩,fun b hb=>?_,q⟩
   have:s1.heap.objs.size<=b:=by
    rcases List.mem_cons.mp hb with z|z
    . subst z;exact Nat.le_succ _
    . have z':b=s1.heap.objs.size:=by simpa using z
      subst z';exact Nat.le_refl _
   exact I1.BB this (I1.hok.fresh this)
end
theorem Gg{K:PySem.W.Frag}{a:Addr}{xs:List V}{g:TG}{tb:TS}{D:Ends}{σ:St}{H:Hp}(Pv:Nat->St->Hp->Prop)(h0:Pv 0 σ H)(hl:∀ i σ H,i<=xs.length->Pv i σ H->SqL K H a xs)
  (hs:∀ i x σ H t,xs[i]?=some x->Pv i σ H->H t=none->g (.ref t) σ (upd H t (.tup [.int i,x])) fun σ2 H2=>tb { D with nx:=Pv (i+1),ct:=Pv (i+1),bk:=D.nx } σ2 H2) (hd:∀ σ H,Pv xs.length σ H->D.nx σ H):
  ∃ W:Nat->Nat->St->Hp->Prop,(∃ m,W 0 m σ H) /\ ∀ i m σ H,W i m σ H ->
    ((Ite K a).stop i H /\ D.nx σ H) \/ ((Ite K a).go i H /\ ∃ N:St->Hp->Prop,(∀ σ' H',N σ' H'->∃ m',m'<m /\ W (i+1) m' σ' H') /\ ∀ x H',(Ite K a).yld i H x H'->g x σ H' fun σ2 H2=>tb { D with nx:=N,ct:=N,bk:=D.nx } σ2 H2):=by
 refine⟨fun i m σ H=>m=xs.length - i /\ i<=xs.length /\ Pv i σ H,⟨xs.length,by simp,Nat.zero_le _,h0⟩,?_⟩
 rintro i m σ H ⟨rfl,hi,p⟩
 have q:=hl i σ H hi p
 by_cases hlt:i<xs.length
 . refine .inr ⟨⟨xs,xs[i],q,by simp[hlt]⟩,Pv (i+1),fun σ' H' p'=>⟨xs.length - (i+1),by omega,rfl,hlt,p'⟩,fun x H' y=>?_⟩;obtain⟨t,z,y1,y3,e1,e2⟩:=y;subst e1 e2;exact hs i z σ _ t (y1 xs q) p y3
 . have e:i=xs.length:=by omega
   subst e;exact .inl ⟨⟨xs,q,Nat.le_refl _⟩,hd σ H p⟩
end L2
namespace L2.P
open PySem PySem.Spec PyProof.Rows L2 L2.E PySem.SeqAt
section
variable{K:PySem.W.Frag}{S H:Hp}
theorem RdV.rep{x:PV}{v:V}(h:RdV K S H x v)(s:aK S H):Rep K H x v:=by
 cases x with
 |lst xs=>obtain⟨p,vs,e,q,r⟩:=h;unfold Rep;exact⟨p,vs,e,q,r.mono s⟩
 |non=>exact Rep.mono s h
 |bl b=>exact Rep.mono s h
 |int i=>exact Rep.mono s h
 |str x=>exact Rep.mono s h
 |tup xs=>exact Rep.mono s h
end
section
variable{X:Cx}{K:PySem.W.Frag}{S H:Hp}
theorem vo{x:PV}{v:V}(h:Rep K H x v)(f:eT x=true):qG v=true:=by
 cases x with
 |lst xs=>cases f
 |tup xs=>cases f
 |non=>unfold Rep at h;subst h;rfl
 |bl b=>unfold Rep at h;subst h;rfl
 |int b=>unfold Rep at h;subst h;rfl
 |str b=>unfold Rep at h;subst h;rfl
theorem Gq{x y:PV}{v u:V}(h:Rep K H x v)(k:Rep K H y u)(f:eT x=true)(g:eT y=true):eqV u v=kz y x:=by
 cases x<;>first|(cases f;done)|skip
 all_goals(unfold Rep at h;subst h;cases y<;>first|(cases g;done)|(unfold Rep at k;subst k;simp[eqV,kz]))
theorem xk{xs:List PV}{vs:List V}(h:bu K H xs vs)(f:xs.all eT=true):vs.all qG=true:=by
 induction xs generalizing vs with
 |nil=>rw[h.nil_inv];rfl
 | cons x xs ih=>
   obtain⟨v,r,rfl,h1,h2⟩:=h.cons_inv
   rw[List.all_cons,Bool.and_eq_true]at f ⊢
   exact⟨vo h1 f.1,ih h2 f.2⟩
theorem zW{x:PV}{v:V}{xs:List PV}{vs:List V}(hx:Rep K H x v)(g:eT x=true)(h:bu K H xs vs)(f:xs.all eT=true):inV v vs=xs.any fun y=>kz y x:=by
 induction xs generalizing vs with
 |nil=>rw[h.nil_inv];rfl
 | cons y xs ih=>
   obtain⟨u,r,rfl,h1,h2⟩:=h.cons_inv;rw[List.all_cons,Bool.and_eq_true]at f;have:=ih h2 f.2
   unfold inV at this ⊢
   rw[List.any_cons,List.any_cons,this,Gq hx h1 g f.1]
theorem zX{x:PV}{xs:List PV}(g:eT x=false)(f:xs.all eT=true):(xs.any fun y=>kz y x)=false:=by
 induction xs with
 |nil=>rfl
 | cons y xs ih=>
   rw[List.all_cons,Bool.and_eq_true]at f;rw[List.any_cons,ih f.2,Bool.or_false];have f1:=f.1
   cases y<;>first|(cases f1;done)|(cases x<;>first|(cases g;done)|simp[kz])
theorem yQ{α:Type}(l:List α):(l.any fun _=>false)=false:=by induction l<;>simp_all
theorem rW{A:Around}{s:Shared}{pins:List (Addr×Obj)}{σ:St}(I:Inv X pins σ H s)(hu:A.units<cLine){x:PV}{v:V}{a:Value}(hx:Rep X.K H x v)(ra:RelV v a)(g:eT x=false):
  ∀{xs:List PV} {vs:List V} {us:List Value},bu X.K H xs vs->Vals vs us->xs.all eT=true->∀ u∈us,EqAt A s u a false:=by
 intro xs
 induction xs with
 |nil=>intro vs us h r _ u hu;rw[h.nil_inv]at r;cases r;cases hu
 | cons y xs ih=>
   intro vs us h r f u hm;obtain⟨w,t,rfl,h1,h2⟩:=h.cons_inv;rw[List.all_cons,Bool.and_eq_true]at f
   cases r with
   | cons r1 r2=>
     rcases List.mem_cons.mp hm with rfl|hm
     . cases x with
       |non=>cases g
       |bl b=>cases g
       |int b=>cases g
       |str b=>cases g
       | lst zs=>
         unfold Rep at hx;obtain⟨p,us',rfl,hq,_⟩:=hx;cases ra;obtain⟨its,_,pl,_⟩:=I.list hq
         cases y with
         |non=>unfold Rep at h1;subst h1;cases r1;exact EqAt.none_list pl.isList hu
         |bl b=>unfold Rep at h1;subst h1;cases r1;exact EqAt.bool_list b pl.isList hu
         |int b=>unfold Rep at h1;subst h1;obtain⟨t',rfl⟩:=r1;exact EqAt.int_list b t' pl.isList hu
         |str b=>unfold Rep at h1;subst h1;obtain⟨t',rfl⟩:=r1;exact EqAt.str_list b t' pl.isList hu
         |lst _=>cases f.1
         |tup _=>cases f.1
       | tup zs=>
         unfold Rep at hx;obtain⟨p,us',rfl,hq,_⟩:=hx;cases ra;obtain⟨its,_,pl,_⟩:=I.tuple hq
         cases y with
         |non=>unfold Rep at h1;subst h1;cases r1;exact EqAt.none_tuple pl hu
         |bl b=>unfold Rep at h1;subst h1;cases r1;exact EqAt.bool_tuple b pl hu
         |int b=>unfold Rep at h1;subst h1;obtain⟨t',rfl⟩:=r1;exact EqAt.int_tuple b t' pl hu
         |str b=>unfold Rep at h1;subst h1;obtain⟨t',rfl⟩:=r1;exact EqAt.str_tuple b t' pl hu
         |lst _=>cases f.1
         |tup _=>cases f.1
     . exact ih h2 r2 f.2 u hm
def FY(K:PySem.W.Frag)(A:Around)(neg:Bool):R2:=fun v u H Q=>∃ x ys p vs,Rep K H x v /\ u=.ref p /\ (SqL K H p vs \/ SqT K H p vs) /\ bu K H ys vs /\ ys.all eT=true /\ A.units+64<cLine /\ Q (.bl (if neg then !(ys.any fun y=>kz y x)else ys.any fun y=>kz y x)) H
theorem lL:OpR X (compareOp .In) (FY X.K X.A false):=by
 intro pins s σ H v u a b Q I rx ry h;obtain⟨x,ys,p,vs,hx,rfl,hq,hr,hf,hu,q⟩:=h
 cases g:eT x with
 |true=>exact DF pins s σ H v _ a b Q I rx ry ⟨p,vs,rfl,hq,vo hx g,xk hr hf,by rw[zW hx g hr hf];exact q⟩
 | false=>
   rw[zX g hf]at q;cases ry
   rcases hq with hq|hq
   . obtain⟨its,r,pl,hz⟩:=I.list hq;refine SeqAt.in_listAt (fun _=>false) pl.isList (fun w hw=>rW I (by show X.A.units+1<cLine;omega) hx rx g hr r hf w (by simpa using hw)) ⟨.bl _,H,I,rfl,?_⟩;rw[show(its.toArray.any fun _=>false)=false by simp[yQ]];exact q
   . obtain⟨its,r,pl,hz⟩:=I.tuple hq;refine SeqAt.in_tupleAt (fun _=>false) pl (fun w hw=>rW I (by show X.A.units+1<cLine;omega) hx rx g hr r hf w (by simpa using hw)) ⟨.bl _,H,I,rfl,?_⟩;rw[show(its.toArray.any fun _=>false)=false by simp[yQ]];exact q
theorem wZ:OpR X (compareOp .NotIn) (FY X.K X.A true):=by
 intro pins s σ H v u a b Q I rx ry h;obtain⟨x,ys,p,vs,hx,rfl,hq,hr,hf,hu,q⟩:=h
 cases g:eT x with
 |true=>exact xP pins s σ H v _ a b Q I rx ry ⟨p,vs,rfl,hq,vo hx g,xk hr hf,by rw[zW hx g hr hf];exact q⟩
 | false=>
   rw[zX g hf]at q;cases ry
   rcases hq with hq|hq
   . obtain⟨its,r,pl,hz⟩:=I.list hq;refine SeqAt.notIn_listAt (fun _=>false) pl.isList (fun w hw=>rW I (by show X.A.units+1<cLine;omega) hx rx g hr r hf w (by simpa using hw)) ⟨.bl _,H,I,rfl,?_⟩;rw[show(its.toArray.any fun _=>false)=false by simp[yQ]];exact q
   . obtain⟨its,r,pl,hz⟩:=I.tuple hq;refine SeqAt.notIn_tupleAt (fun _=>false) pl (fun w hw=>rW I (by show X.A.units+1<cLine;omega) hx rx g hr r hf w (by simpa using hw)) ⟨.bl _,H,I,rfl,?_⟩;rw[show(its.toArray.any fun _=>false)=false by simp[yQ]];exact q
theorem BN{A:Around}{neg:Bool}{x y:PV}{v u:V}{b:Bool}{Q:VK}(hu:A.units+64<cLine)(I:aK S H)(hx:RdV K S H x v)(hy:RdV K S H y u)(e:n8 x y=some b)(k:∀ z S' H',bq S H S' H'->mZ K H S' H' (.sh (.bl (if neg then !b else b))) z->Q z H'):FY K A neg v u H Q:=by
 cases y with
 | tup ys=>
   simp only[n8]at e
   by_cases hf:ys.all eT=true
   . rw[if_pos hf]at e;cases e;obtain⟨p,vs,rfl,hq,hr⟩:=nT hy
     exact⟨x,ys,p,vs,hx.rep I,rfl,.inr (aK.tup I hq),hr.mono I,hf,hu,k _ S H (bq.refl I) pS⟩
   . rw[if_neg hf]at e;cases e
 | lst ys=>
   simp only[n8]at e
   by_cases hf:ys.all eT=true
   . rw[if_pos hf]at e;cases e;obtain⟨p,vs,rfl,hq,hr⟩:=gD hy
     exact⟨x,ys,p,vs,hx.rep I,rfl,.inl hq,hr.mono I,hf,hu,k _ S H (bq.refl I) pS⟩
   . rw[if_neg hf]at e;cases e
 |_=>simp only[n8]at e;cases e
theorem pR{A:Around}(hu:A.units+64<cLine):JR K (FY K A false) gIn:=by
 intro S H x y v u rr Q I hx hy e k;obtain⟨b,e1,e2⟩:=Option.map_eq_some_iff.mp e;subst e2;exact BN hu I hx hy e1 k
theorem zw{A:Around}(hu:A.units+64<cLine):JR K (FY K A true) tY:=by
 intro S H x y v u rr Q I hx hy e k;obtain⟨b,e1,e2⟩:=Option.map_eq_some_iff.mp e;subst e2;exact BN hu I hx hy e1 k
end
end L2.P
namespace L2.P
open PySem PySem.Spec PyProof.Rows L2 L2.E
section
variable{K:PySem.W.Frag}{cls:String->Option Addr}{W:XW}{Av G S₀ S S' H H' B B':Hp}{ρ:ag}{σ:St}{Q:VK}
abbrev g2(K:PySem.W.Frag)(i j:Nat):TG:=Lb K 2 (BL (kh i) (BL (kh j) K5))
theorem A9{mb:ag->OS}{D:Ends}{N:St->Hp->Prop}(hb:JS K cls W tb mb)(I:SR K cls Av G S₀ ρ σ S H)(hx:Rep K S x v)(hy:Rep K S y u)(ht:SqT K H t [v,u])
  (p:jv K cls W Av G S₀ S D (n9 i j mb (.tup [x,y] ::xs) ρ)) (hN:∀ ρ' σ' S' H',SR K cls Av G S₀ ρ' σ' S' H'->aK S S'->jv K cls W Av G S₀ S' D (n9 i j mb xs ρ')->N σ' H'):
  g2 K i j (.ref t) σ H fun σ2 H2=>tb { D with nx:=N,ct:=N,bk:=D.nx } σ2 H2:=by
 refine⟨t,_,rfl,ht,rfl,_,_,rfl,_,_,rfl,rfl,?_⟩
 refine hb Av G S₀ _ _ S H _ ((I.Ca hx).Ca hy) ?_;unfold n9 at p
 cases e:mb ((ρ.set i (some (.sh x))).set j (some (.sh y)))with
 |nx ρ'=>rw[e]at p;exact fun σ' S' H' I' s'=>hN ρ' σ' S' H' I' s' (p.back s')
 |ct ρ'=>rw[e]at p;exact fun σ' S' H' I' s'=>hN ρ' σ' S' H' I' s' (p.back s')
 |bk ρ'=>rw[e]at p;exact p
 |rt ρ' r=>rw[e]at p;exact p
 |exc ρ' c fs=>rw[e]at p;exact p
 |bad=>rw[e]at p;exact p
theorem A7(xs:List PV):∀(k n:Nat) (y:PV),xs[k]?=some y->uq (n+k) (xs.drop k)=.tup [.int ((n+k:Nat):Int),y] ::uq (n+(k+1)) (xs.drop (k+1)):=by
 intro k n y hy
 have hk:k<xs.length:=(List.getElem?_eq_some_iff.mp hy).1
 rw[List.drop_eq_getElem_cons hk]
 have:xs[k]=y:=(List.getElem?_eq_some_iff.mp hy).2
 rw[this];rfl
theorem GS{ml:ag->OE}{mb:ag->OS}(hl:JE K cls W tl ml)(hb:JS K cls W tb mb):JS K cls W (EN (F7 K (iY tl kL)) (g2 K i j) tb) (BJ i j ml mb):=by
 intro Av G S₀ ρ σ S H D I p;refine hl Av G S₀ ρ σ S H _ I ?_;unfold BJ at p
 cases em:ml ρ with
 |exc c fs=>rw[em]at p;exact fun a C S' H' w x=>p a C σ S' H' (I.grow w) w.s x
 |bad=>rw[em]at p;exact p
 | ok r=>
   rw[em]at p;intro v S1 H1 w1 r1;simp only[OE.cW]at p
   cases ei:zt r with
   |none=>rw[ei]at p;exact p.elim
   | some xs=>
     rw[ei]at p
     have es:m4 r=some (.lst xs):=by
      cases r with
      |sh y=>cases y<;>cases ei<;>rfl
      |fr ys=>cases ei;rfl
      |al ys=>cases ei
     obtain⟨S2,w2,s2,rx⟩:=r1.share w1 es;have I2:=I.grow w2;unfold Rep at rx;obtain⟨a,vs,rfl,hq,hr⟩:=rx
     show ∃ a',[V.ref a]=[V.ref a'] /\ _
     refine⟨a,rfl,⟨vs,aK.seq I2.sh hq⟩,?_⟩
     refine Gg (xs:=vs) (fun k σ' H'=>∃ ρ' S',SR K cls Av G S₀ ρ' σ' S' H' /\ aK S2 S' /\ jv K cls W Av G S₀ S' D (n9 i j mb (uq (0+k) (xs.drop k)) ρ'))
      ⟨ρ,S2,I2,aK.refl _,p.back w2.s⟩ ?_ ?_ ?_
     . rintro k σ' H' _ ⟨ρ',S',I',s',_⟩
       exact aK.seq (s'.trans I'.sh) hq
     . rintro k x σ' H' t hx ⟨ρ',S',I',s',p'⟩ ht
       obtain⟨y,hy,ry⟩:=hr.My hx;rw[A7 xs k 0 y hy]at p'
       have w3:bq S' H' S' (upd H' t (.tup [.int k,x])):=bq.heap I'.sh ht
       refine A9 hb (I'.grow w3) (x:=.int ((0+k:Nat):Int)) (v:=.int k) (by unfold Rep;rw[Nat.zero_add]) (Rep.mono s' ry) (SqT.new bQ) p' fun ρ2 σ2 S3 H3 I3 s3 p3=>⟨ρ2,S3,I3,s'.trans s3,p3⟩
     . rintro σ' H' ⟨ρ',S',I',s',p'⟩
       rw[List.drop_of_length_le (by rw[hr.length];exact Nat.le_refl _)]at p';exact p' σ' S' H' I' (aK.refl _)
end
end L2.P
namespace L2.E
open PySem PySem.Spec PyProof.Rows L2
theorem Hn{X:Cx}(hg:Gl X "enumerate")(hm:X.mg "enumerate" = none)(ha:QA X [a] ta)(hs:starEach [a] X.env=[(false,eval a X.env)]:=by rfl):
  QI X (.Tuple elts k tp) (.Call (.Name "enumerate" p) [a] [] pos) (F7 X.K ta):=⟨Hu hg hm ha.out hs⟩
structure QGs(X:Cx)(es:List Expr)(t:TGs):Prop where
 out:PGs X es t
theorem Hy:QGs X [] K5:=⟨Ho⟩
theorem y0{X:Cx}(h1:QG X e t)(h2:QGs X es u)
  (hs:(assignEach (e ::es) X.env).map (·.2)=assign e X.env ::(assignEach es X.env).map (·.2):=by rfl):QGs X (e ::es) (BL t u):=⟨Ec h1.out h2.out hs⟩
theorem Kx{X:Cx}(hc:X.calm=true)(h:QGs X es t)
  (hn:(assignEach es X.env).length=n:=by rfl) (hst:(assignEach es X.env).findIdx? (·.1)=none:=by rfl):QG X (.Tuple es k pos) (Lb X.K n t):=⟨Jr hc h.out hn hst⟩
end L2.E
namespace L2.P
open PySem PySem.Spec PyProof.Rows L2 L2.E
section
variable{K:PySem.W.Frag}{cls:String->Option Addr}{W:XW}{Av G S₀ S S' H H' B B':Hp}{ρ:ag}{σ:St}{Q:VK}{F:Nat->List Addr}
theorem bB.length{ts:List OV}{vs:List V}(h:bB K cls S H ts vs f):vs.length=ts.length:=by
 induction ts generalizing vs f with
 |nil=>unfold bB at h;rw[h.1];rfl
 | cons t ts ih=>
   unfold bB at h;obtain⟨v,r,f1,f2,rfl,_,_,h2⟩:=h;simp[ih h2]
theorem bB.cons_inv(h:bB K cls S H (t ::ts) vs fp):∃ v r f1 f2,vs=v ::r /\ fp=f1++f2 /\ bx K cls S H t v f1 /\ bB K cls S H ts r f2:=by unfold bB at h;exact h
theorem bB.cons(h:bx K cls S H t v f1)(r:bB K cls S H ts vs f2):bB K cls S H (t ::ts) (v ::vs) (f1++f2):=by unfold bB;exact⟨v,vs,f1,f2,rfl,rfl,h,r⟩
theorem bB.nil:bB K cls S H [] [] []:=by unfold bB;exact⟨rfl,rfl⟩
theorem bB.append(h:bB K cls S H ts vs f)(k:bB K cls S H us ws g):bB K cls S H (ts++us) (vs++ws) (f++g):=by
 induction ts generalizing vs f with
 |nil=>unfold bB at h;rw[h.1,h.2];exact k
 | cons t ts ih=>
   obtain⟨v,r,f1,f2,rfl,rfl,h1,h2⟩:=h.cons_inv;have:=bB.cons h1 (ih h2);rw[List.append_assoc];exact this
theorem bB.shs{xs:List PV}(h:bu K S xs vs):bB K cls S H (xs.map .sh) vs []:=by
 induction xs generalizing vs with
 |nil=>rw[h.nil_inv];exact .nil
 | cons x xs ih=>
   obtain⟨v,r,rfl,h1,h2⟩:=h.cons_inv;exact bB.cons (f1:=[]) (by unfold bx;exact⟨rfl,h1⟩) (ih h2)
theorem bB.flat(e:vK ts=some xs)(h:bB K cls S H ts vs f):bu K S xs vs /\ f=[]:=by
 induction ts generalizing xs vs f with
 |nil=>cases e;unfold bB at h;rw[h.1,h.2];exact⟨.nil,rfl⟩
 | cons t ts ih=>
   cases t with
   | sh x=>
     obtain⟨ys,e1,e2⟩:=Option.map_eq_some_iff.mp e;subst e2;obtain⟨v,r,f1,f2,rfl,rfl,h1,h2⟩:=h.cons_inv;unfold bx at h1;obtain⟨h3,h4⟩:=ih e1 h2
     exact⟨.cons h1.2 h3,by rw[h1.1,h4];rfl⟩
   |ol _=>cases e
   |ob _ _ _=>cases e
   |di _=>cases e
   |dt _=>cases e
theorem bB.at{ts:List OV}{vs:List V}{f:List Addr}(h:bB K cls S H ts vs f)(e:ts[k]?=some u):
  ∃ w f1 rest,vs[k]?=some w /\ bx K cls S H u w f1 /\ f.Perm (f1++rest) /\
    ∀ S' H' u' w' f',aK S S'->bx K cls S' H' u' w' f'->(∀ a∈rest,∀ o,H a=some o->H' a=some o)->∃ g,bB K cls S' H' (ts.set k u') (vs.set k w') g /\ g.Perm (f'++rest):=by
 induction ts generalizing vs f k with
 |nil=>simp at e
 | cons t ts ih=>
   obtain⟨v,r,f1,f2,rfl,rfl,h1,h2⟩:=h.cons_inv
   cases k with
   | zero=>
     simp at e;subst e
     refine⟨v,f1,f2,rfl,h1,List.Perm.refl _,fun S' H' u' w' f' s r' g=>?_⟩
     exact⟨f'++f2,bB.cons r' (h2.mono s g),List.Perm.refl _⟩
   | succ k=>
     simp at e;obtain⟨w,g1,rest,e1,r1,p1,c1⟩:=ih h2 e
     refine⟨w,g1,f1++rest,by simpa using e1,r1,?_,fun S' H' u' w' f' s r' g=>?_⟩
     . have:(f1++f2).Perm (f1++(g1++rest)):=List.Perm.append_left f1 p1
       refine this.trans ?_;rw[<- List.append_assoc,<- List.append_assoc];exact List.Perm.append_right rest List.perm_append_comm
     . obtain⟨g2,r2,p2⟩:=c1 S' H' u' w' f' s r' fun a ha=>g a (List.mem_append_right _ ha)
       refine⟨f1++g2,bB.cons (h1.mono s fun a ha=>g a (List.mem_append_left _ ha)) r2,?_⟩
       refine(List.Perm.append_left f1 p2).trans ?_
       rw[<- List.append_assoc,<- List.append_assoc];exact List.Perm.append_right rest List.perm_append_comm
theorem Cm{ts:List OV}(h:pd ks ts f=some u):∃ k,ts[k]?=some u /\ ks[k]?=some f /\ (∀ u',wI ks ts f u'=ts.set k u') /\ ∀{α:Type} (us:List (Str×α)),us.map (·.1)=ks->us.lookup f=(us.map (·.2))[k]?:=by
 induction ks generalizing ts with
 |nil=>simp[pd]at h
 | cons g ks ih=>
   cases ts with
   |nil=>simp[pd]at h
   | cons t ts=>
     unfold pd at h;split at h
     . rename_i e;subst e;cases h
       refine⟨0,rfl,rfl,fun u'=>by simp[wI],fun us eu=>?_⟩
       cases us with
       |nil=>cases eu
       | cons q us=>
         simp at eu;obtain⟨a,b⟩:=q;simp at eu;rw[<- eu.1];simp[List.lookup]
     . rename_i ne;obtain⟨k,e1,e2,e3,e4⟩:=ih h
       refine⟨k+1,by simpa using e1,by simpa using e2,fun u'=>by simp[wI,ne,e3],fun us eu=>?_⟩
       cases us with
       |nil=>cases eu
       | cons q us=>
         obtain⟨a,b⟩:=q;simp at eu
         have:(f==a)=false:=by rw[eu.1];simpa using Ne.symm ne
         simp[List.lookup,this,e4 us eu.2]
def wQ(H:Hp):Stp->V->V->Prop
 |.ix k,v,w=>∃ p vs,v=.ref p /\ H p=some (.lst vs) /\ vs[k]?=some w
 |.fd f,v,w=>∃ p C dx us,v=.ref p /\ H p=some (.ins C dx us) /\ us.lookup f=some w
def j4(H:Hp):V->List Stp->V->Prop
 |v,[],w=>w=v
 |v,s ::π,w=>∃ u,wQ H s v u /\ j4 H u π w
theorem wQ.inj(h:wQ H s v w)(k:wQ H s v w'):w=w':=by
 cases s with
 | ix n=>
   obtain⟨p,vs,rfl,e1,e2⟩:=h;obtain⟨p',vs',e3,e4,e5⟩:=k;cases e3;rw[e1]at e4;cases e4;rw[e2]at e5;cases e5;rfl
 | fd f=>
   obtain⟨p,C,dx,us,rfl,e1,e2⟩:=h;obtain⟨p',C',dx',us',e3,e4,e5⟩:=k;cases e3;rw[e1]at e4;cases e4;rw[e2]at e5;cases e5;rfl
theorem j4.inj:∀{v w w':V},j4 H v π w->j4 H v π w'->w=w':=by
 induction π with
 |nil=>intro v w w' h k;rw[h,k]
 | cons s π ih=>
   rintro v w w' ⟨u,h1,h2⟩ ⟨u',k1,k2⟩
   have:=h1.inj k1;subst this;exact ih h2 k2
theorem j4.snoc:∀{v w u:V},j4 H v π w->wQ H s w u->j4 H v (π++[s]) u:=by
 induction π with
 |nil=>intro v w u h k;rw[h]at k;exact⟨u,k,rfl⟩
 | cons t π ih=>
   rintro v w u ⟨x,h1,h2⟩ k
   exact⟨x,h1,ih h2 k⟩
theorem j4.mono(g:aK H H'):∀{v w:V},j4 H v π w->j4 H' v π w:=by
 induction π with
 |nil=>intro v w h;exact h
 | cons t π ih=>
   rintro v w ⟨x,h1,h2⟩
   refine⟨x,?_,ih h2⟩
   cases t with
   |ix k=>obtain⟨p,vs,e,e1,e2⟩:=h1;exact⟨p,vs,e,g _ _ e1,e2⟩
   |fd f=>obtain⟨p,C,dx,us,e,e1,e2⟩:=h1;exact⟨p,C,dx,us,e,g _ _ e1,e2⟩
theorem bx.step{t u:OV}{fp:List Addr}(h:bx K cls S H t v fp)(e:t.at1 s=some u):
  ∃ w f1 rest,wQ H s v w /\ bx K cls S H u w f1 /\ fp.Perm (f1++rest) /\
    ∀ S' H' u' f',aK S S'->bx K cls S' H' u' w f'->(∀ a∈rest,∀ o,H a=some o->H' a=some o)->∃ g,bx K cls S' H' (t.ky s u') v g /\ g.Perm (f'++rest):=by
 cases t with
 |sh x=>cases s<;>cases e
 |di x=>cases s<;>cases e
 |dt x=>cases s<;>cases e
 | ol ts=>
   cases s with
   |fd f=>cases e
   | ix k=>
     unfold bx at h;obtain⟨p,vs,f,rfl,hp,rfl,r⟩:=h;obtain⟨w,f1,rest,e1,r1,p1,c1⟩:=r.at e
     refine⟨w,f1,p ::rest,⟨p,vs,rfl,hp,e1⟩,r1,?_,fun S' H' u' f' s r' g=>?_⟩
     . exact(List.Perm.cons p p1).trans (List.perm_middle.symm)
     . obtain⟨g2,r2,p2⟩:=c1 S' H' u' w f' s r' fun a ha=>g a (by simp[ha])
       refine⟨p ::g2,?_,(List.Perm.cons p p2).trans List.perm_middle.symm⟩
       rw[lF e1]at r2;unfold OV.ky bx
       exact⟨p,vs,g2,rfl,g p (by simp) _ hp,rfl,r2⟩
 | ob c ks ts=>
   cases s with
   |ix k=>cases e
   | fd f=>
     unfold bx at h;obtain⟨p,C,dx,us,ff,rfl,hc,hp,hd,hk,rfl,r⟩:=h;obtain⟨k,e1,e2,e3,e4⟩:=Cm e;obtain⟨w,f1,rest,q1,r1,p1,c1⟩:=r.at e1
     refine⟨w,f1,p ::dx ::rest,⟨p,C,dx,us,rfl,hp,by rw[e4 us hk];exact q1⟩,r1,?_,fun S' H' u' f' s r' g=>?_⟩
     . exact((List.Perm.cons p ((List.Perm.cons dx p1).trans List.perm_middle.symm))).trans List.perm_middle.symm
     . obtain⟨g2,r2,p2⟩:=c1 S' H' u' w f' s r' fun a ha=>g a (by simp[ha])
       refine⟨p ::dx ::g2,?_,(List.Perm.cons p ((List.Perm.cons dx p2).trans List.perm_middle.symm)).trans List.perm_middle.symm⟩
       rw[lF q1]at r2;unfold OV.ky bx
       exact⟨p,C,dx,us,g2,rfl,hc,g p (by simp) _ hp,g dx (by simp) _ hd,hk,rfl,by rw[e3];exact r2⟩
theorem bx.focus:∀{t u:OV} {v:V} {fp:List Addr},bx K cls S H t v fp->t.get π=some u ->
  ∃ w f1 rest,j4 H v π w /\ bx K cls S H u w f1 /\ fp.Perm (f1++rest) /\
    ∀ S' H' u' f',aK S S'->bx K cls S' H' u' w f'->(∀ a∈rest,∀ o,H a=some o->H' a=some o)->∃ g,bx K cls S' H' (t.put π u') v g /\ g.Perm (f'++rest):=by
 induction π with
 | nil=>
   intro t u v fp h e;cases e
   exact⟨v,fp,[],rfl,h,by simp,fun S' H' u' f' _ r' _=>⟨f',by unfold OV.put;exact r',by simp⟩⟩
 | cons s π ih=>
   intro t u v fp h e;unfold OV.get at e;obtain⟨t1,e1,e2⟩:=Option.bind_eq_some_iff.mp e;obtain⟨w1,f1,rest1,st,r1,p1,c1⟩:=h.step e1;obtain⟨w,f2,rest2,wk,r2,p2,c2⟩:=ih r1 e2
   refine⟨w,f2,rest2++rest1,⟨w1,st,wk⟩,r2,?_,fun S' H' u' f' s' r' g=>?_⟩
   . rw[<- List.append_assoc];exact p1.trans (List.Perm.append_right rest1 p2)
   . obtain⟨g1,q1,k1⟩:=c2 S' H' u' f' s' r' fun a ha=>g a (List.mem_append_left _ ha)
     obtain⟨g2,q2,k2⟩:=c1 S' H' _ g1 s' q1 fun a ha=>g a (List.mem_append_right _ ha)
     refine⟨g2,?_,?_⟩
     . unfold OV.put;rw[e1];exact q2
     . rw[<- List.append_assoc];exact k2.trans (List.Perm.append_right rest1 k1)
theorem SR.tree(I:SR K cls Av G S₀ ρ σ S H)(e:fU i ρ=some t):∃ v fp,σ[i]?=some (some v) /\ bx K cls S H t v fp:=by
 obtain⟨F,J⟩:=I;unfold fU at e
 cases q:ρ[i]? with
 |none=>rw[q]at e;cases e
 | some o=>
   cases o with
   |none=>rw[q]at e;cases e
   | some s=>
     rw[q]at e;obtain⟨v,e1,r⟩:=J.own i s q
     cases s with
     |tr io t'=>cases e;exact⟨v,_,e1,r.1⟩
     | bo t'=>
       cases e;obtain⟨_,f,r⟩:=r
       exact⟨v,f,e1,r.mono (aK.refl _) fun _ _ _ h=>J.gh _ _ h⟩
     |sh x=>cases e
     |ow xs=>cases e
     |ex c fs=>cases e
def JP(K:PySem.W.Frag)(cls:String->Option Addr)(te:TE)(i:Nat)(mp:MP):Prop:=∀ Av G S₀ ρ σ S H Q v0 t π,SR K cls Av G S₀ ρ σ S H->fU i ρ=some t->σ[i]?=some (some v0)->mp ρ=some π->(t.get π).isSome=true ->
 (∀ w S' H',bq S H S' H'->j4 H' v0 π w->Q w H')->te σ H Q
theorem aP:JP K cls (zd i) i aI:=by
 intro Av G S₀ ρ σ S H Q v0 t π I e ev ep _ k;cases ep
 exact⟨v0,ev,k v0 S H (bq.refl I.sh) rfl⟩
theorem Mi{mk:ag->OE}(hp:JP K cls te i mp)(hk:JE K cls W tk mk):JP K cls (tOp (Ha K) te tk) i (pIx i mp mk):=by
 intro Av G S₀ ρ σ S H Q v0 t π I e ev ep hs k;unfold pIx at ep;rw[e]at ep
 dsimp only at ep
 split at ep
 . rename_i π0 e0;split at ep
   . rename_i ts e1;split at ep
     . rename_i r er;split at ep
       . rename_i n en;obtain⟨j,ej,e2⟩:=Option.map_eq_some_iff.mp ep;subst e2
         refine hp Av G S₀ ρ σ S H _ v0 t π0 I e ev e0 (by rw[e1];rfl) fun w S1 H1 w1 wk=>?_
         refine hk Av G S₀ ρ σ S1 H1 _ (I.grow w1) ?_;rw[er];intro u S2 H2 w2 ru;have I2:=(I.grow w1).grow w2
         have hu:u=.int n:=by have:=ru.rd I2.sh;rw[en]at this;exact dD this
         subst hu;obtain⟨v,fp,ev',ro⟩:=I2.tree e;rw[ev]at ev';cases ev';obtain⟨w',f1,rest,wk',r',_,_⟩:=ro.focus e1;have:=(wk.mono w2.g).inj wk';subst this;unfold bx at r';obtain⟨p,vs,f,rfl,hl,rfl,rs⟩:=r'
         have hj:j<ts.length:=by
          have h1:L2.atI ts n=ts[j]?:=by unfold L2.atI;show(ixP ts.length n).bind _=_;rw[ej];rfl
          unfold ixP at ej;split at ej
          . split at ej
            . cases ej;omega
            . cases ej
          . split at ej
            . cases ej;omega
            . cases ej
         have hjv:j<vs.length:=by rw[rs.length];exact hj
         have hx:vs[j]?=some vs[j]:=by simp[hjv]
         refine⟨p,vs,n,vs[j],rfl,rfl,SqL.new hl,?_,k _ S2 H2 (w1.trans w2) (wk'.snoc ⟨p,vs,rfl,hl,hx⟩)⟩
         unfold L2.atI
         show(ixP vs.length n).bind _=_
         rw[rs.length,ej];exact hx
       . cases ep
     . cases ep
   . cases ep
 . cases ep
theorem JP.sub(hp:JP K cls te i mp)(I:SR K cls Av G S₀ ρ σ S H)(e:subAt i mp ρ=some u)
  (k:∀ w S' H' f,bq S H S' H'->SR K cls Av G S₀ ρ σ S' H'->bx K cls S' H' u w f->Q w H'):te σ H Q:=by
 unfold subAt at e;split at e
 . rename_i t et;split at e
   . rename_i π eπ;obtain⟨v0,fp0,ev,_⟩:=I.tree et
     refine hp Av G S₀ ρ σ S H _ v0 t π I et ev eπ (by rw[e];rfl) fun w S1 H1 w1 wk=>?_
     obtain⟨v,fp,ev',ro⟩:=(I.grow w1).tree et;rw[ev]at ev';cases ev';obtain⟨w',f1,rest,wk',r',_,_⟩:=ro.focus e;have:=wk.inj wk';subst this;exact k w S1 H1 f1 w1 (I.grow w1) r'
   . cases e
 . cases e
theorem xG{ok:String->Bool}(hp:JP K cls te i mp)(ha:∀ c C,cls c=some C->ok c=true->Cls K C /\ mQ K C f):JP K cls (Jm K te f) i (pFd i mp f ok):=by
 intro Av G S₀ ρ σ S H Q v0 t π I e ev ep hs k;unfold pFd at ep;split at ep
 . rename_i c ks ts es;split at ep
   . rename_i hok;rw[Bool.and_eq_true]at hok;obtain⟨π0,e0,rfl⟩:=Option.map_eq_some_iff.mp ep
     have e1:t.get π0=some (.ob c ks ts):=by
      unfold subAt at es;rw[e]at es
      dsimp only at es
      rw[e0]at es;exact es
     refine hp Av G S₀ ρ σ S H _ v0 t π0 I e ev e0 (by rw[e1];rfl) fun w S1 H1 w1 wk=>?_
     have I1:=I.grow w1;obtain⟨v,fp,ev',ro⟩:=I1.tree e;rw[ev]at ev';cases ev';obtain⟨w',f1,rest,wk',r',_,_⟩:=ro.focus e1;have:=wk.inj wk';subst this;unfold bx at r';obtain⟨p,C,dx,us,ff,rfl,hcl,hp',hd,hk,rfl,r⟩:=r';obtain⟨a1,a2⟩:=ha c C hcl hok.1
     cases q:pd ks ts f with
     |none=>rw[q]at hok;cases hok.2
     | some u=>
       obtain⟨n,h1,h2,h3,h4⟩:=Cm q
       have hn:n<(us.map (·.2)).length:=by rw[r.length];exact(List.getElem?_eq_some_iff.mp h1).1
       have hx:us.lookup f=some (us.map (·.2))[n]:=by rw[h4 us hk];exact List.getElem?_eq_getElem hn
       exact⟨p,C,dx,us,_,rfl,hp',a1,a2,hx,k _ S1 H1 w1 (wk'.snoc ⟨p,C,dx,us,rfl,hp',hx⟩)⟩
   . cases ep
 . cases ep
theorem fX(hp:JP K cls te i mp):JE K cls W te (cF i mp):=by
 intro Av G S₀ ρ σ S H Q I p;unfold cF at p;split at p
 . rename_i x e
   refine hp.sub I e fun w S1 H1 f w1 _ r=>?_
   unfold bx at r;exact p w S1 H1 w1 r.2
 . rename_i ts e;split at p
   . rename_i xs ex
     refine hp.sub I e fun w S1 H1 f w1 _ r=>?_
     unfold bx at r;obtain⟨q,vs,ff,rfl,hq,_,rs⟩:=r;exact p _ S1 H1 w1 ⟨q,vs,rfl,SqL.new hq,(rs.flat ex).1⟩
   . exact p.elim
 . exact p.elim
theorem gU(hp:JP K cls te i mp):JT K cls W (fun σ H Q=>te σ H fun x H'=>∃ k,AY K x H' k /\ Q k H') (du i mp):=by
 intro Av G S₀ ρ σ S H Q I p;unfold du at p;split at p
 . rename_i ts e
   refine hp.sub I e fun w S1 H1 f w1 _ r=>?_
   unfold bx at r;obtain⟨q,vs,ff,rfl,hq,_,rs⟩:=r
   refine⟨_,.inl ⟨vs,SqL.new hq,rfl⟩,?_⟩
   have:vs.isEmpty=ts.isEmpty:=by
    have:=rs.length
    cases vs<;>cases ts<;>simp_all
   rw[this];exact p S1 H1 w1
 . exact p.elim
theorem jZ(hp:JP K cls te i mp):JE K cls W (tCB (fun xs H Q=>∃ p ys,xs=[.ref p] /\ (SqL K H p ys \/ SqT K H p ys) /\ Q (.int ys.length) H) (iY te kL)) (gd i mp):=by
 intro Av G S₀ ρ σ S H Q I p;unfold gd at p;split at p
 . rename_i ts e
   refine hp.sub I e fun w S1 H1 f w1 _ r=>?_
   unfold bx at r;obtain⟨q,vs,ff,rfl,hq,_,rs⟩:=r
   exact⟨q,vs,rfl,.inl (SqL.new hq),p _ S1 H1 w1 (by show Rep K S1 _ _;unfold Rep;rw[rs.length])⟩
 . exact p.elim
end
section
variable{K:PySem.W.Frag}{cls:String->Option Addr}{W:XW}{Av G S₀ S S' H H' B B':Hp}{ρ:ag}{σ:St}{Q:VK}{F:Nat->List Addr}
theorem SRF.part{t u:OV}(J:SRF K cls Av G S₀ ρ σ S H F)(hi:ρ[i]?=some (some (.tr io t)))(hv:σ[i]?=some (some v0))(e:t.get π=some u):
  ∃ w f1 rest,j4 H v0 π w /\ bx K cls S H u w f1 /\ (F i).Perm (f1++rest) /\ (f1++rest).Nodup /\ (∀ a∈f1,G a=none /\ S a=none) /\
    ∀ S' H' u' f',aK S S'->aK S' H'->aK G H'->(∀ b,S' b≠none->S₀ b≠none \/ G b=none)->bx K cls S' H' u' w f'->f'.Nodup->(∀ a∈f',a∈f1 \/ H a=none)->(∀ a∈f',S' a=none) ->
      (∀ a o,a∉f1->H a=some o->H' a=some o)->(∀ a,S' a≠none->S a≠none \/ H a=none \/ a∈f1) ->
      ∃ g,SRF K cls Av G S₀ (ρ.set i (some (.tr io (t.put π u')))) σ S' H' (oO F i g) /\ g.Perm (f'++rest):=by
 obtain⟨v,ev,ro,nd,gs,hio⟩:=J.own i _ hi;rw[hv]at ev;cases ev;obtain⟨w,f1,rest,wk,r1,p1,c1⟩:=ro.focus e
 have nd1:(f1++rest).Nodup:=p1.nodup_iff.mp nd
 have in1:∀ a,a∈f1->a∈F i:=fun a ha=>p1.mem_iff.mpr (List.mem_append_left _ ha)
 have inr:∀ a,a∈rest->a∈F i:=fun a ha=>p1.mem_iff.mpr (List.mem_append_right _ ha)
 have off1:∀ a,a∈rest->a∉f1:=fun a ha hb=>(List.nodup_append.mp nd1).2.2 a hb a ha rfl
 refine⟨w,f1,rest,wk,r1,p1,nd1,fun a ha=>gs a (in1 a ha),fun S' H' u' f' s sh gh new r' nd' fr nS keep nw=>?_⟩
 obtain⟨g,rg,pg⟩:=c1 S' H' u' f' s r' fun a ha o h=>keep a o (off1 a ha) h
 have noS:∀ j a,a∈F j->a∉f1->S' a=none:=fun j a ha hb=>by
  cases q:S' a with
  |none=>rfl
  | some o=>
    obtain⟨⟨o',h1,_⟩,_,h3⟩:=J.live j a ha
    rcases nw a (by rw[q];simp)with z|z|z
    . exact absurd h3 z
    . rw[h1]at z;cases z
    . exact absurd z hb
 have J1:SRF K cls Av G S₀ (ρ.set i none) (σ.set i none) S H (oO F i []):=J.put (fun t e=>nomatch e) (fun a ha=>nomatch ha) fun j a _ ha=>nomatch ha
 have off:∀ j a,a∈oO F i [] j->a∉f1 /\ j≠i:=fun j a ha=>by
  by_cases ej:j=i
  . subst ej;rw[jh]at ha;cases ha
  . rw[fA ej]at ha
    exact⟨fun hb=>ej (J.apart j i a ha (in1 a hb)),ej⟩
 have J2:=J1.change (S':=S') (H':=H') gh s sh new (fun j a ha o h=>keep a o (off j a ha).1 h)
  (fun b o hx h=>keep b o (fun hb=>by
    obtain⟨⟨o',h1,h2⟩,_⟩:=J.live i b (in1 b hb)
    rw[h]at h1;cases h1;rw[hx]at h2;cases h2) h)
  fun j a ha=>by
   have hj:=off j a ha;rw[fA hj.2]at ha;exact noS j a ha hj.1
 have mem:∀ a,a∈g->a∈f' \/ a∈rest:=fun a ha=>List.mem_append.mp (pg.mem_iff.mp ha)
 have hlive:∀ a∈g,(∃ o,H' a=some o /\ isX o=false) /\ G a=none /\ S' a=none:=fun a ha=>by
  refine⟨rg.live a ha,?_,?_⟩
  . rcases mem a ha with z|z
    . rcases fr a z with y|y
      . exact(gs a (in1 a y)).1
      . exact J.gh.free y
    . exact(gs a (inr a z)).1
  . rcases mem a ha with z|z
    . exact nS a z
    . exact noS i a (inr a z) (off1 a z)
 have ndg:g.Nodup:=pg.nodup_iff.mpr (List.nodup_append.mpr ⟨nd',(List.nodup_append.mp nd1).2.1,fun a ha b hb z=>by
  subst z
  rcases fr a ha with y|y
  . exact off1 a hb y
  . obtain⟨⟨o',h1,_⟩,_⟩:=J.live i a (inr a hb)
    rw[y]at h1;cases h1⟩)
 have J3:=J2.put (i:=i) (s:=some (.tr io (t.put π u'))) (u:=some v0) (fp:=g) (fun t' e=>by
  cases e
  exact⟨v0,rfl,rg,ndg,fun a ha=>⟨(hlive a ha).2.1,(hlive a ha).2.2⟩,hio⟩) hlive fun j a hj ha hz=>by
   rw[fA hj]at hz
   rcases mem a ha with z|z
   . rcases fr a z with y|y
     . exact hj (J.apart j i a hz (in1 a y))
     . obtain⟨⟨o',h1,_⟩,_⟩:=J.live j a hz;rw[y]at h1;cases h1
   . exact hj (J.apart j i a hz (inr a z))
 rw[List.set_set,List.set_set,lF hv]at J3
 have eF:oO (oO F i []) i g=oO F i g:=by
  funext j
  by_cases ej:j=i
  . subst ej;rw[jh,jh]
  . rw[fA ej,fA ej,fA ej]
 rw[eF]at J3
 exact⟨g,J3,pg⟩
theorem SRF.more(I:SRF K cls Av G S₀ ρ σ S H F)(h:∀ t,s=some t->∃ v,u=some v /\ uK K cls Av G S H ρ.length t v fp)
  (hl:∀ a∈fp,(∃ o,H a=some o /\ isX o=false) /\ G a=none /\ S a=none) (ap:∀ j a,j<ρ.length->a∈fp->a∉F j):∃ F',SRF K cls Av G S₀ (ρ++[s]) (σ++[u]) S H F':=by
 refine⟨fun j=>if j<ρ.length then F j else if j=ρ.length then fp else[],I.gh,I.s0,I.sh,I.new,fun j t e=>?_,fun j k a h1 h2=>?_,fun j a ha=>?_,by simp[I.len]⟩
 . by_cases hj:j<ρ.length
   . rw[List.getElem?_append_left hj]at e;rw[List.getElem?_append_left (by rw[<- I.len];exact hj)];simp only[hj,if_true];exact I.own j t e
   . rw[List.getElem?_append_right (Nat.le_of_not_lt hj)]at e
     have h0:j - ρ.length=0:=by
      by_cases h:j - ρ.length=0
      . exact h
      . rw[List.getElem?_eq_none (by simp;omega)]at e;cases e
     rw[h0]at e
     have ej:j=ρ.length:=by omega
     obtain⟨v,e2,r⟩:=h t (Option.some.inj e)
     refine⟨v,?_,?_⟩
     . rw[List.getElem?_append_right (by rw[<- I.len];omega),<- I.len,h0,e2];rfl
     . subst ej;simp only[Nat.lt_irrefl,if_false,if_true];exact r
 . by_cases hj:j<ρ.length
   . simp only[hj,if_true]at h1
     by_cases hk:k<ρ.length
     . simp only[hk,if_true]at h2;exact I.apart j k a h1 h2
     . simp only[hk,if_false]at h2;split at h2
       . exact absurd h1 (ap j a hj h2)
       . cases h2
   . simp only[hj,if_false]at h1;split at h1
     . rename_i ej
       by_cases hk:k<ρ.length
       . simp only[hk,if_true]at h2;exact absurd h2 (ap k a hk h1)
       . simp only[hk,if_false]at h2;split at h2
         . rename_i ek;rw[ej,ek]
         . cases h2
     . cases h1
 . by_cases hj:j<ρ.length
   . simp only[hj,if_true]at ha;exact I.live j a ha
   . simp only[hj,if_false]at ha;split at ha
     . exact hl a ha
     . cases ha
theorem SR.fold(I:SR K cls Av G S₀ (ρ++[some s]) (σ++[some v]) S H)(hs:nio s=true):SR K cls Av G S₀ (ρ.set i (some s)) (σ.set i (some v)) S H:=by
 obtain⟨F,J⟩:=I
 have hlen:ρ.length=σ.length:=by have:=J.len;simpa using this
 obtain⟨v',ev,r⟩:=J.own ρ.length s (by simp)
 have ev':v'=v:=by
  rw[List.getElem?_append_right (by rw[hlen];exact Nat.le_refl _),hlen,Nat.sub_self]at ev
  cases ev;rfl
 subst ev'
 have J1:SRF K cls Av G S₀ ρ σ S H (fun j=>if j<ρ.length then F j else[]):=by
  refine⟨J.gh,J.s0,J.sh,J.new,fun j t e=>?_,fun j k a h1 h2=>?_,fun j a ha=>?_,hlen⟩
  . have hj:j<ρ.length:=(List.getElem?_eq_some_iff.mp e).1
    obtain⟨v2,e2,r2⟩:=J.own j t (by rw[List.getElem?_append_left hj];exact e);rw[List.getElem?_append_left (by rw[<- hlen];exact hj)]at e2;simp only[hj,if_true]
    exact⟨v2,e2,r2⟩
  . split at h1
    . split at h2
      . exact J.apart j k a h1 h2
      . cases h2
    . cases h1
  . split at ha
    . exact J.live j a ha
    . cases ha
 refine⟨_,J1.put (i:=i) (s:=some s) (u:=some v') (fp:=F ρ.length) (fun t e=>?_) (fun a ha=>J.live _ a ha) fun j a hj ha hz=>?_⟩
 . cases e
   refine⟨v',rfl,?_⟩
   cases s with
   |sh x=>exact r
   |ow xs=>exact r
   |ex c fs=>exact r
   | tr io t=>
     cases io with
     |true=>cases hs
     |false=>exact⟨r.1,r.2.1,r.2.2.1,fun z=>nomatch z⟩
   |bo t=>cases hs
 . split at hz
   . rename_i hj';have:=J.apart j ρ.length a hz ha;omega
   . cases hz
theorem SR.Cs(I:SR K cls Av G S₀ (ρ++[s]) (σ++[u]) S H):SR K cls Av G S₀ ρ σ S H:=by
 obtain⟨F,J⟩:=I
 have hlen:ρ.length=σ.length:=by have:=J.len;simpa using this
 refine⟨F,J.gh,J.s0,J.sh,J.new,fun j t e=>?_,J.apart,J.live,hlen⟩
 have hj:j<ρ.length:=(List.getElem?_eq_some_iff.mp e).1
 obtain⟨v2,e2,r2⟩:=J.own j t (by rw[List.getElem?_append_left hj];exact e);rw[List.getElem?_append_left (by rw[<- hlen];exact hj)]at e2
 exact⟨v2,e2,r2⟩
def E7(K:PySem.W.Frag)(cls:String->Option Addr)(B S H:Hp)(t:OV)(v:V):Prop:=∃ fp,bx K cls S H t v fp /\ fp.Nodup /\ ∀ a∈fp,B a=none /\ S a=none
def Mw(K:PySem.W.Frag)(cls:String->Option Addr)(B S H:Hp)(ts:List OV)(vs:List V):Prop:=∃ fp,bB K cls S H ts vs fp /\ fp.Nodup /\ ∀ a∈fp,B a=none /\ S a=none
def L4(K:PySem.W.Frag)(cls:String->Option Addr)(W:XW)(σ:St)(S H:Hp)(Q:VK):OD->Prop
 |.ok t=>∀ v S' H',bq S H S' H'->E7 K cls H S' H' t v->Q v H'
 |.exc c fs=>∀ a C S' H',bq S H S' H'->oW K cls S' H' c fs a C->W (.ref C) (some a) σ H'
 |.bad=>False
def Lj(K:PySem.W.Frag)(cls:String->Option Addr)(W:XW)(σ:St)(S H:Hp)(Q:List V->Hp->Prop):ODs->Prop
 |.ok ts=>∀ vs S' H',bq S H S' H'->Mw K cls H S' H' ts vs->Q vs H'
 |.exc c fs=>∀ a C S' H',bq S H S' H'->oW K cls S' H' c fs a C->W (.ref C) (some a) σ H'
 |.bad=>False
def JD(K:PySem.W.Frag)(cls:String->Option Addr)(W:XW)(te:TE)(m:ag->OD):Prop:=∀ Av G S₀ ρ σ S H Q,SR K cls Av G S₀ ρ σ S H->L4 K cls W σ S H Q (m ρ)->te σ H Q
def JDs(K:PySem.W.Frag)(cls:String->Option Addr)(W:XW)(te:TA)(m:ag->ODs):Prop:=∀ Av G S₀ ρ σ S H Q,SR K cls Av G S₀ ρ σ S H->Lj K cls W σ S H Q (m ρ)->te σ H Q
theorem E7.grow(h:E7 K cls B S H t v)(w:bq S H S1 H1):E7 K cls B S1 H1 t v:=by
 obtain⟨fp,r,nd,g⟩:=h
 refine⟨fp,r.mono w.s fun a _ o z=>w.g _ _ z,nd,fun a ha=>⟨(g a ha).1,?_⟩⟩
 obtain⟨o,h1,_⟩:=r.live a ha
 cases q:S1 a with
 |none=>rfl
 | some o'=>
   rcases w.new a (by rw[q];simp)with z|z
   . exact absurd (g a ha).2 z
   . rw[h1]at z;cases z
theorem lM{me:ag->OE}(h:JE K cls W te me):JD K cls W te (mD me):=by
 intro Av G S₀ ρ σ S H Q I p;refine h Av G S₀ ρ σ S H Q I ?_;unfold mD at p
 cases e:me ρ with
 |exc c fs=>rw[e]at p;exact p
 |bad=>rw[e]at p;exact p
 | ok r=>
   rw[e]at p
   cases r with
   |sh x=>exact fun v S' H' w r=>p v S' H' w ⟨[],by unfold bx;exact⟨rfl,r⟩,List.nodup_nil,fun a ha=>nomatch ha⟩
   |al xs=>exact p.elim
   | fr xs=>
     intro v S' H' w r;obtain⟨q,vs,rfl,hB,hS,hH,hr⟩:=r;refine p _ S' H' w ⟨[q],by unfold bx;exact⟨q,vs,[],rfl,hH,rfl,.shs hr⟩,by simp,fun a ha=>?_⟩
     have z:a=q:=by simpa using ha
     subst z;exact⟨hB,hS⟩
theorem Gv:JDs K cls W kL mDn:=fun Av G S₀ ρ σ S H Q I p=>p [] S H (bq.refl I.sh) ⟨[],.nil,List.nodup_nil,fun a ha=>nomatch ha⟩
theorem rN{md:ag->OD}{mr:ag->ODs}(hd:JD K cls W te md)(ht:JDs K cls W t mr):JDs K cls W (iY te t) (mDc md mr):=by
 intro Av G S₀ ρ σ S H Q I p;refine hd Av G S₀ ρ σ S H _ I ?_;unfold mDc at p
 cases e:md ρ with
 |exc c fs=>rw[e]at p;exact p
 |bad=>rw[e]at p;exact p
 | ok x=>
   rw[e]at p;intro v S1 H1 w1 r1;refine ht Av G S₀ ρ σ S1 H1 _ (I.grow w1) ?_
   dsimp only at p
   cases e2:mr ρ with
   |exc c fs=>rw[e2]at p;exact fun a C S' H' w x=>p a C S' H' (w1.trans w) x
   |bad=>rw[e2]at p;exact p
   | ok ts=>
     rw[e2]at p;intro vs S2 H2 w2 r2;obtain⟨f2,q2,n2,g2⟩:=r2;have r3:=r1.grow w2;obtain⟨f0,q0,n0,g0⟩:=r1;refine p (v ::vs) S2 H2 (w1.trans w2) ⟨f0++f2,.cons (q0.mono w2.s fun a _ o z=>w2.g _ _ z) q2,List.nodup_append.mpr ⟨n0,n2,fun a ha b hb z=>?_⟩,fun a ha=>?_⟩
     . subst z;obtain⟨o,h1,_⟩:=q0.live a ha;rw[(g2 a hb).1]at h1;cases h1
     . rcases List.mem_append.mp ha with z|z
       . refine⟨(g0 a z).1,?_⟩
         obtain⟨o,h1,_⟩:=q0.live a z
         cases q:S2 a with
         |none=>rfl
         | some o'=>
           rcases w2.new a (by rw[q];simp)with y|y
           . exact absurd (g0 a z).2 y
           . rw[h1]at y;cases y
       . exact⟨w1.g.free (g2 a z).1,(g2 a z).2⟩
theorem KW{mr:ag->ODs}(h:JDs K cls W t mr):JD K cls W (HN t) (mDl mr):=by
 intro Av G S₀ ρ σ S H Q I p;refine h Av G S₀ ρ σ S H _ I ?_;unfold mDl at p
 cases e:mr ρ with
 |exc c fs=>rw[e]at p;exact p
 |bad=>rw[e]at p;exact p
 | ok ts=>
   rw[e]at p
   dsimp only at p
   split at p
   . rename_i hl;intro vs S1 H1 w1 r1;obtain⟨fp,r,nd,g⟩:=r1
     refine⟨by rw[r.length];exact hl,fun q hq=>?_⟩
     have w2:bq S1 H1 S1 (upd H1 q (.lst vs)):=bq.heap w1.sh hq
     refine p (.ref q) S1 _ (w1.trans w2) ⟨q ::fp,by unfold bx;exact⟨q,vs,fp,rfl,bQ,rfl,r.mono (aK.refl _) fun a _ o z=>w2.g _ _ z⟩,List.nodup_cons.mpr ⟨fun z=>?_,nd⟩,fun a ha=>?_⟩
     . obtain⟨o,h1,_⟩:=r.live q z;rw[hq]at h1;cases h1
     . rcases List.mem_cons.mp ha with z|z
       . subst z;exact⟨w1.g.free hq,w1.sh.free hq⟩
       . exact g a z
   . exact p.elim
theorem SR.Mt(I:SR K cls Av G S₀ ρ σ S H)(w:bq S H S' H')(h:E7 K cls H S' H' t v):SR K cls Av G S₀ (ρ.set i (some (.tr false t))) (σ.set i (some v)) S' H':=by
 obtain⟨F,J⟩:=I;obtain⟨fp,r,nd,g⟩:=h
 refine⟨_,(J.grow w).put (fp:=fp) (fun t' e=>by cases e;exact⟨v,rfl,r,nd,fun a ha=>⟨J.gh.free (g a ha).1,(g a ha).2⟩,fun z=>nomatch z⟩) (fun a ha=>⟨r.live a ha,J.gh.free (g a ha).1,(g a ha).2⟩) fun j a _ ha hz=>?_⟩
 obtain⟨⟨o,h1,_⟩,_⟩:=J.live j a hz;rw[(g a ha).1]at h1;cases h1
theorem om{md:ag->OD}(h:JD K cls W te md):JS K cls W (tW te (kh i)) (j6 i md):=by
 intro Av G S₀ ρ σ S H D I p;refine h Av G S₀ ρ σ S H _ I ?_;unfold j6 at p
 cases e:md ρ with
 |exc c fs=>rw[e]at p;exact fun a C S' H' w x=>p a C σ S' H' (I.grow w) w.s x
 |bad=>rw[e]at p;exact p
 |ok t=>rw[e]at p;exact fun v S1 H1 w1 r1=>p _ S1 H1 (I.Mt w1 r1) w1.s
end
section
variable{K:PySem.W.Frag}{cls:String->Option Addr}{W:XW}{Av G S₀ S S' H H' B B':Hp}{ρ:ag}{σ:St}{Q:VK}{F:Nat->List Addr}
theorem bx.Fu{ts:List OV}{v:V}{fp:List Addr}(h:bx K cls S H (.ol ts) v fp):∃ p vs f,v=.ref p /\ H p=some (.lst vs) /\ fp=p ::f /\ bB K cls S H ts vs f:=by unfold bx at h;exact h
theorem SRF.rV{i:Nat}{io:Bool}{t:OV}{ts:List OV}{v0:V}{π:List Stp}(J:SRF K cls Av G S₀ ρ σ S H F)(hi:ρ[i]?=some (some (.tr io t)))(hv:σ[i]?=some (some v0))(e:t.get π=some (.ol ts)):
  ∃ q vs ff rest,j4 H v0 π (.ref q) /\ H q=some (.lst vs) /\ vs.length=ts.length /\ bB K cls S H ts vs ff /\ (F i).Perm ((q ::ff)++rest) /\ ((q ::ff)++rest).Nodup /\
    ∀ S' H' ts' vs' f',bq S H S' H'->bB K cls S' H' ts' vs' f'->f'.Nodup->(∀ a∈f',a∈ff \/ (H a=none /\ S' a=none)) ->
      ∃ g,SRF K cls Av G S₀ (ρ.set i (some (.tr io (t.put π (.ol ts'))))) σ S' (upd H' q (.lst vs')) (oO F i g) /\ g.Perm ((q ::f')++rest):=by
 obtain⟨w,f1,rest,wk,r1,p1,nd1,gs,c⟩:=J.part hi hv e;obtain⟨q,vs,ff,rfl,hq,rfl,rs⟩:=r1.Fu
 refine⟨q,vs,ff,rest,wk,hq,rs.length,rs,p1,nd1,fun S' H' ts' vs' f' wg r' nd' fr=>?_⟩
 have hGq:=(gs q (by simp)).1;have hSq:=(gs q (by simp)).2
 have hS'q:S' q=none:=by
  cases z:S' q with
  |none=>rfl
  | some o=>
    rcases wg.new q (by rw[z];simp)with y|y
    . exact absurd hSq y
    . rw[hq]at y;cases y
 have nq:q∉f':=fun z=>by
  rcases fr q z with y|y
  . exact(List.nodup_cons.mp (List.nodup_append.mp nd1).1).1 y
  . rw[y.1]at hq;cases hq
 have nS:∀ a∈f',S' a=none:=fun a ha=>by
  rcases fr a ha with y|y
  . cases z:S' a with
    |none=>rfl
    | some o=>
      obtain⟨o',h1,_⟩:=rs.live a y
      rcases wg.new a (by rw[z];simp)with k|k
      . exact absurd (gs a (by simp[y])).2 k
      . rw[h1]at k;cases k
  . exact y.2
 refine c S' (upd H' q (.lst vs')) (.ol ts') (q ::f') wg.s (wg.sh.upd hS'q) ((J.gh.trans wg.g).upd hGq) (fun b h=>?_) ?_ (List.nodup_cons.mpr ⟨nq,nd'⟩) (fun a ha=>?_) (fun a ha=>?_) (fun a o hn h=>?_) fun a h=>?_
 . rcases wg.new b h with z|z
   . exact J.new b z
   . exact .inr (J.gh.free z)
 . unfold bx
   exact⟨q,vs',f',rfl,bQ,rfl,r'.mono (aK.refl _) fun a ha o h=>by rw[bL (fun z=>nq (by rw[<- z];exact ha))];exact h⟩
 . rcases List.mem_cons.mp ha with z|z
   . subst z;exact .inl (by simp)
   . rcases fr a z with y|y
     . exact .inl (by simp[y])
     . exact .inr y.1
 . rcases List.mem_cons.mp ha with z|z
   . subst z;exact hS'q
   . exact nS a z
 . rw[bL (fun z=>hn (by rw[z];simp))];exact wg.g _ _ h
 . rcases wg.new a h with z|z
   . exact .inl z
   . exact .inr (.inl z)
theorem JP.at{i:Nat}{te:TE}{mp:MP}{io:Bool}{t u:OV}{v0:V}{π:List Stp}{Q:VK}(hp:JP K cls te i mp)(I:SR K cls Av G S₀ ρ σ S H)(hi:ρ[i]?=some (some (.tr io t)))(hv:σ[i]?=some (some v0))(e0:mp ρ=some π)(e1:t.get π=some u)
  (k:∀ w S' H',bq S H S' H'->SR K cls Av G S₀ ρ σ S' H'->j4 H' v0 π w->Q w H'):te σ H Q:=
 hp Av G S₀ ρ σ S H Q v0 t π I (by unfold fU;rw[hi];rfl) hv e0 (by rw[e1];rfl) fun w S1 H1 w1 wk=>k w S1 H1 w1 (I.grow w1) wk
theorem pW{i:Nat}{mp:MP}{k:OV->(OV->ag)->OS}{D:Ends}(p:jv K cls W Av G S₀ S D (tq i mp ρ k)):∃ io t π u,ρ[i]?=some (some (.tr io t)) /\ mp ρ=some π /\ t.get π=some u /\ jv K cls W Av G S₀ S D (k u fun u'=>ρ.set i (some (.tr io (t.put π u')))):=by
 unfold tq at p;split at p
 . rename_i io t hi;split at p
   . rename_i π e0;split at p
     . rename_i u e1
       exact⟨io,t,π,u,hi,e0,e1,p⟩
     . exact p.elim
   . exact p.elim
 . exact p.elim
theorem SR.val{i:Nat}{s:Sl}(I:SR K cls Av G S₀ ρ σ S H)(e:ρ[i]?=some (some s)):∃ v,σ[i]?=some (some v):=let ⟨v,h,_⟩:=I.good i s e;⟨v,h⟩
theorem eP{i:Nat}{te tx:TE}{mp:MP}{md:ag->OD}(hp:JP K cls te i mp)(hx:JD K cls W tx md):JS K cls W (sT (tBM K "list" yl te (iY tx kL))) (b0 i mp md):=by
 intro Av G S₀ ρ σ S H D I p;obtain⟨io,t,π,u,hi,e0,e1,p⟩:=pW p;obtain⟨v0,hv⟩:=I.val hi
 cases u with
 |sh x=>exact p.elim
 |ob c ks us=>exact p.elim
 |di x=>exact p.elim
 |dt x=>exact p.elim
 | ol ts=>
   dsimp only at p
   refine hp.at I hi hv e0 e1 fun w S1 H1 w1 I1 wk=>?_
   obtain⟨F,J1⟩:=I1;obtain⟨q,vs,ff,rest,wk',hq,hl,rs,_,nd,c⟩:=J1.rV hi hv e1;have:=wk.inj wk';subst this
   refine⟨.inl ⟨rfl,_,SqL.new hq⟩,?_⟩
   refine hx Av G S₀ ρ σ S1 H1 _ ⟨F,J1⟩ ?_
   cases ed:md ρ with
   |exc c fs=>rw[ed]at p;exact fun a C S' H' w x=>p a C σ S' H' (SR.grow ⟨F,J1⟩ w) (w1.s.trans w.s) x
   |bad=>rw[ed]at p;exact p
   | ok x=>
     rw[ed]at p
     dsimp only at p
     split at p
     . rename_i hlt;intro v S2 H2 w2 r2;obtain⟨fx,rx,ndx,gx⟩:=r2
       refine⟨q,vs,v,rfl,rfl,w2.g _ _ hq,by rw[hl];exact hlt,?_⟩
       have ndf:ff.Nodup:=(List.nodup_cons.mp (List.nodup_append.mp nd).1).2
       have apx:∀ a∈ff,a∉fx:=fun a ha hb=>by
        obtain⟨o,h1,_⟩:=rs.live a ha;rw[(gx a hb).1]at h1;cases h1
       obtain⟨g,J3,_⟩:=c S2 H2 (ts++[x]) (vs++[v]) (ff++(fx++[])) w2 ((rs.mono w2.s fun a _ o h=>w2.g _ _ h).append (.cons rx .nil)) (by
         rw[List.append_nil]
         exact List.nodup_append.mpr ⟨ndf,ndx,fun a ha b hb z=>by subst z;exact apx a ha hb⟩) (fun a ha=>by
         rw[List.append_nil]at ha
         rcases List.mem_append.mp ha with z|z
         . exact .inl z
         . exact .inr (gx a z))
       exact p σ S2 _ ⟨_,J3⟩ (w1.s.trans w2.s)
     . exact p.elim
end
section
variable{K:PySem.W.Frag}{cls:String->Option Addr}{W:XW}{Av G S₀ S S' H H' B B':Hp}{ρ:ag}{σ:St}{Q:VK}{F:Nat->List Addr}
theorem uY{i:Nat}{te tk tx:TE}{mp:MP}{mk:ag->OE}{md:ag->OD}(hp:JP K cls te i mp)(hk:JE K cls W tk mk)(hx:JD K cls W tx md):JS K cls W (tW tx (Ls te tk IP)) (pB i mp mk md):=by
 intro Av G S₀ ρ σ S H D I p;refine hx Av G S₀ ρ σ S H _ I ?_;unfold pB at p
 cases ed:md ρ with
 |exc c fs=>rw[ed]at p;exact fun a C S' H' w x=>p a C σ S' H' (I.grow w) w.s x
 |bad=>rw[ed]at p;exact p
 | ok x=>
   rw[ed]at p
   dsimp only at p
   obtain⟨io,t,π,u,hi,e0,e1,p⟩:=pW p;obtain⟨v0,hv⟩:=I.val hi
   cases u with
   |sh x=>exact p.elim
   |ob c ks us=>exact p.elim
   |di x=>exact p.elim
   |dt x=>exact p.elim
   | ol ts=>
     dsimp only at p
     intro v S1 H1 w1 r1
     refine hp.at (I.grow w1) hi hv e0 e1 fun w S2 H2 w2 I2 wk=>?_
     have p2:=p.back (w1.s.trans w2.s)
     refine hk.goS I2 p2 fun r z S3 H3 I3 w3 r3 p3=>?_
     cases en:r.pv with
     | int n=>
       rw[en]at p3
       dsimp only at p3
       cases ej:ixP ts.length n with
       |none=>rw[ej]at p3;exact p3.elim
       | some j=>
         rw[ej]at p3;obtain⟨F,J⟩:=id I;obtain⟨q,vs,ff,rest,wk',hq,hl,rs,_,nd,c⟩:=J.rV hi hv e1;have:=wk.inj (wk'.mono (w1.g.trans w2.g));subst this
         have hz:z=.int n:=by have:=r3.rd I3.sh;rw[en]at this;exact dD this
         subst hz
         have wg:bq S H S3 H3:=(w1.trans w2).trans w3
         have hj:j<ts.length:=by
          unfold ixP at ej;split at ej
          . split at ej
            . cases ej;omega
            . cases ej
          . split at ej
            . cases ej;omega
            . cases ej
         have ndf:ff.Nodup:=(List.nodup_cons.mp (List.nodup_append.mp nd).1).2
         obtain⟨fx,rx,ndx,gx⟩:=(r1.grow w2).grow w3;obtain⟨w0,f1,rs',e1',r1',p1',c1⟩:=rs.at (k:=j) (u:=ts[j]) (by simp[hj])
         obtain⟨g,rg,pg⟩:=c1 S3 H3 x v fx wg.s rx fun a _ o h=>wg.g _ _ h
         have inff:∀ a∈rs',a∈ff:=fun a ha=>p1'.mem_iff.mpr (List.mem_append_right _ ha)
         have ndr:rs'.Nodup:=(List.nodup_append.mp (p1'.nodup_iff.mp ndf)).2.1
         have ndg:g.Nodup:=pg.nodup_iff.mpr (List.nodup_append.mpr ⟨ndx,ndr,fun a ha b hb z=>by
          subst z;obtain⟨o,h1,_⟩:=rs.live a (inff a hb)
          rw[(gx a ha).1]at h1;cases h1⟩)
         obtain⟨g2,J3,_⟩:=c S3 H3 (ts.set j x) (vs.set j v) g wg rg ndg fun a ha=>by
          rcases List.mem_append.mp (pg.mem_iff.mp ha)with z|z
          . exact .inr (gx a z)
          . exact .inl (inff a z)
         exact⟨q,vs,n,j,rfl,rfl,wg.g _ _ hq,by rw[hl];exact ej,p3 σ S3 _ ⟨_,J3⟩ (aK.refl _)⟩
     |_=>rw[en]at p3;exact p3.elim
def Jg(K:PySem.W.Frag)(cls:String->Option Addr)(W:XW)(Av G S₀:Hp)(σ:St)(S:Hp)(Q:VK):OX->Prop
 |.ok ρ' s=>∀ v S' H',SR K cls Av G S₀ (ρ'++[some s]) (σ++[some v]) S' H'->aK S S'->Q v H'
 |.exc ρ' c fs=>∀ a C S' H',SR K cls Av G S₀ ρ' σ S' H'->aK S S'->oW K cls S' H' c fs a C->W (.ref C) (some a) σ H'
 |.bad=>False
def JX(K:PySem.W.Frag)(cls:String->Option Addr)(W:XW)(te:TE)(m:ag->OX):Prop:=∀ Av G S₀ ρ σ S H Q,SR K cls Av G S₀ ρ σ S H->Jg K cls W Av G S₀ σ S Q (m ρ)->te σ H Q
theorem nN{i:Nat}{te:TE}{m:ag->OX}(h:JX K cls W te m):JS K cls W (tW te (kh i)) (hX i m):=by
 intro Av G S₀ ρ σ S H D I p;refine h Av G S₀ ρ σ S H _ I ?_;unfold hX at p
 cases e:m ρ with
 |exc ρ' c fs=>rw[e]at p;exact fun a C S' H' I' s' x=>p a C σ S' H' I' s' x
 |bad=>rw[e]at p;exact p
 | ok ρ' s=>
   rw[e]at p
   dsimp only at p
   split at p
   . rename_i hs
     exact fun v S' H' I' s'=>p _ S' H' (I'.fold hs) s'
   . exact p.elim
theorem SR.JL{x:PV}{v:V}(I:SR K cls Av G S₀ (ρ++[some (.sh x)]) (σ++[some v]) S H):Rep K S x v:=by
 obtain⟨F,J⟩:=I
 have hlen:ρ.length=σ.length:=by have:=J.len;simpa using this
 obtain⟨v',ev,r⟩:=J.own ρ.length (.sh x) (by simp);rw[List.getElem?_append_right (by rw[hlen];exact Nat.le_refl _),hlen,Nat.sub_self]at ev;cases ev;exact r.2
theorem HA{te:TE}{m:ag->OX}{ta tb:TS}{ma mb:ag->OS}(h:JX K cls W te m)(ha:JS K cls W ta ma)(hb:JS K cls W tb mb):
  JS K cls W (HR (Hw (fun σ H Q=>te σ H fun x H'=>∃ k,AY K x H' k /\ Q k H')) ta tb) (He true m ma mb):=by
 intro Av G S₀ ρ σ S H D I p;refine h Av G S₀ ρ σ S H _ I ?_;unfold He at p
 cases e:m ρ with
 |exc ρ' c fs=>rw[e]at p;exact fun a C S' H' I' s' x=>p a C σ S' H' I' s' x
 |bad=>rw[e]at p;exact p
 | ok ρ' s=>
   rw[e]at p
   cases s with
   | sh x=>
     dsimp only at p
     intro v S' H' I' s'
     cases et:ud x with
     |none=>rw[et]at p;exact p.elim
     | some k=>
       rw[et]at p
       refine⟨k,Cz I'.sh (I'.JL.rd I'.sh) et,?_⟩
       cases k with
       |false=>exact Ar (ha Av G S₀ ρ' σ S' H' D I'.Cs (p.back s'))
       |true=>exact Al (hb Av G S₀ ρ' σ S' H' D I'.Cs (p.back s'))
   |ow xs=>exact p.elim
   |ex c fs=>exact p.elim
   |tr io t=>exact p.elim
   |bo t=>exact p.elim
theorem bB.last{ts:List OV}{vs:List V}{f:List Addr}{x:OV}(h:bB K cls S H ts vs f)(e:ts.getLast?=some x):∃ y f1 f2,vs[vs.length - 1]?=some y /\ bB K cls S H ts.dropLast vs.dropLast f1 /\ bx K cls S H x y f2 /\ f=f1++f2:=by
 induction ts generalizing vs f with
 |nil=>cases e
 | cons t ts ih=>
   obtain⟨v,r,f1,f2,rfl,rfl,h1,h2⟩:=h.cons_inv
   cases ts with
   | nil=>
     unfold bB at h2;obtain⟨rfl,rfl⟩:=h2;simp at e;subst e
     exact⟨v,[],f1,rfl,.nil,h1,by simp⟩
   | cons t2 ts2=>
     rw[List.getLast?_cons_cons]at e;obtain⟨y,g1,g2,e1,r1,r2,rfl⟩:=ih h2 e
     have hr:r≠[]:=by intro z;subst z;have:=h2.length;simp at this
     refine⟨y,f1++g1,g2,?_,?_,r2,by simp⟩
     . cases r with
       |nil=>exact absurd rfl hr
       |cons a r'=>simpa using e1
     . cases r with
       |nil=>exact absurd rfl hr
       |cons a r'=>exact bB.cons h1 r1
theorem HD{x:OV}{v:V}{fp:List Addr}{i:Nat}(h:bx K cls S H x v fp)(nd:fp.Nodup)(g:∀ a∈fp,G a=none /\ S a=none):uK K cls Av G S H i (slO x) v fp:=by
 cases x with
 |sh y=>unfold bx at h;exact h
 |ol ts=>exact⟨h,nd,g,fun z=>nomatch z⟩
 |ob c ks ts=>exact⟨h,nd,g,fun z=>nomatch z⟩
 |di x=>exact⟨h,nd,g,fun z=>nomatch z⟩
 |dt x=>exact⟨h,nd,g,fun z=>nomatch z⟩
theorem BV{i:Nat}{te:TE}{mp:MP}(hp:JP K cls te i mp):JX K cls W (Gu K "list" Mm te) (qr i mp):=by
 intro Av G S₀ ρ σ S H Q I p;unfold qr at p;split at p
 . rename_i io t hi;split at p
   . rename_i π e0;split at p
     . rename_i ts e1;split at p
       . rename_i x ex;obtain⟨v0,hv⟩:=I.val hi
         refine hp.at I hi hv e0 e1 fun w S1 H1 w1 I1 wk=>?_
         obtain⟨F,J1⟩:=id I1;obtain⟨q,vs,ff,rest,wk',hq,hl,rs,pF,nd,c⟩:=J1.rV hi hv e1;have:=wk.inj wk';subst this;obtain⟨y,f1,f2,ey,ri,rx,rfl⟩:=rs.last ex
         have ndf:(f1++f2).Nodup:=(List.nodup_cons.mp (List.nodup_append.mp nd).1).2
         have nq:q∉f1++f2:=(List.nodup_cons.mp (List.nodup_append.mp nd).1).1
         refine⟨.inl ⟨rfl,_,SqL.new hq⟩,q,vs,y,rfl,rfl,hq,ey,?_⟩
         obtain⟨g,J3,pg⟩:=c S1 H1 ts.dropLast vs.dropLast f1 (bq.refl J1.sh) ri (List.nodup_append.mp ndf).1 fun a ha=>.inl (List.mem_append_left _ ha)
         have in2:∀ a∈f2,a∈F i:=fun a ha=>pF.mem_iff.mpr (by simp[ha])
         have rx':bx K cls S1 (upd H1 q (.lst vs.dropLast)) x y f2:=rx.mono (aK.refl _) fun a ha o h=>by rw[bL (fun z=>nq (by rw[<- z];simp[ha]))];exact h
         have gs2:∀ a∈f2,G a=none /\ S1 a=none:=fun a ha=>(J1.live i a (in2 a ha)).2
         obtain⟨F',J4⟩:=J3.more (s:=some (slO x)) (u:=some y) (fp:=f2) (fun t' e=>by cases e;exact⟨y,rfl,HD rx' (List.nodup_append.mp ndf).2.1 gs2⟩) (fun a ha=>⟨rx'.live a ha,gs2 a ha⟩) fun j a hj ha hz=>by
          by_cases ej:j=i
          . subst ej;rw[jh]at hz;have hm:=pg.mem_iff.mp hz;have hd:=List.nodup_append.mp nd
            rcases List.mem_append.mp hm with z|z
            . rcases List.mem_cons.mp z with z|z
              . subst z;exact nq (by simp[ha])
              . exact(List.nodup_append.mp ndf).2.2 a z a ha rfl
            . exact hd.2.2 a (by simp[ha]) a z rfl
          . rw[fA ej]at hz;exact ej (J1.apart j i a hz (in2 a ha))
         exact p y S1 _ ⟨F',J4⟩ w1.s
       . exact p.elim
     . exact p.elim
   . exact p.elim
 . exact p.elim
end
section
variable{K:PySem.W.Frag}{cls:String->Option Addr}{W:XW}{Av G S₀ S S' H H' B B':Hp}{ρ:ag}{σ:St}{Q:VK}{F:Nat->List Addr}
mutual
theorem bx.frozen(s:aK S S'):∀{t:OV} {v:V} {fp:List Addr} {x:PV},bx K cls S H t v fp->pvO t=some x->(∀ a∈fp,S' a=H a)->Rep K S' x v
 | .sh y,v,fp,x,h,e,g=>by
   unfold pvO at e;cases e;unfold bx at h;exact Rep.mono s h.2
 | .ol ts,v,fp,x,h,e,g=>by
   unfold pvO at e;obtain⟨xs,e1,rfl⟩:=Option.map_eq_some_iff.mp e;obtain⟨p,vs,f,rfl,hp,rfl,rs⟩:=h.Fu;unfold Rep
   exact⟨p,vs,rfl,SqL.new (by rw[g p (by simp)];exact hp),bB.frozen s rs e1 fun a ha=>g a (by simp[ha])⟩
 |.ob c ks ts,v,fp,x,h,e,g=>by unfold pvO at e;cases e
 |.di c,v,fp,x,h,e,g=>by unfold pvO at e;cases e
 |.dt c,v,fp,x,h,e,g=>by unfold pvO at e;cases e
theorem bB.frozen(s:aK S S'):∀{ts:List OV} {vs:List V} {fp:List Addr} {xs:List PV},bB K cls S H ts vs fp->uG ts=some xs->(∀ a∈fp,S' a=H a)->bu K S' xs vs
 | [],vs,fp,xs,h,e,g=>by
   unfold uG at e;cases e;unfold bB at h;rw[h.1];exact .nil
 | t ::ts,vs,fp,xs,h,e,g=>by
   unfold uG at e;obtain⟨x,e1,e2⟩:=Option.bind_eq_some_iff.mp e;obtain⟨ys,e3,rfl⟩:=Option.map_eq_some_iff.mp e2;obtain⟨v,r,f1,f2,rfl,rfl,h1,h2⟩:=h.cons_inv;exact .cons (bx.frozen s h1 e1 fun a ha=>g a (by simp[ha])) (bB.frozen s h2 e3 fun a ha=>g a (by simp[ha]))
end
theorem SR.Jp{i:Nat}{t:OV}{x:PV}(I:SR K cls Av G S₀ ρ σ S H)(hi:ρ[i]?=some (some (.tr false t)))(ex:pvO t=some x):∃ S',aK S S' /\ SR K cls Av G S₀ (ρ.set i (some (.sh x))) σ S' H:=by
 obtain⟨F,J⟩:=I;obtain⟨v,hv,ro,nd,gs,_⟩:=J.own i _ hi
 have J1:SRF K cls Av G S₀ (ρ.set i none) (σ.set i none) S H (oO F i []):=J.put (fun t e=>nomatch e) (fun a ha=>nomatch ha) fun j a _ ha=>nomatch ha
 let S':Hp:=fun a=>if a∈F i then H a else S a
 have sS:aK S S':=fun b u h=>by
  show(if b∈F i then H b else S b)=some u
  rw[if_neg (fun z=>by rw[(gs b z).2]at h;cases h)];exact h
 have sH:aK S' H:=fun b u h=>by
  have h':(if b∈F i then H b else S b)=some u:=h
  split at h'
  . exact h'
  . exact J.sh b u h'
 have off:∀ j a,a∈oO F i [] j->a∉F i:=fun j a ha z=>by
  by_cases ej:j=i
  . subst ej;rw[jh]at ha;cases ha
  . rw[fA ej]at ha;exact ej (J.apart j i a ha z)
 have J2:=J1.change (S':=S') (H':=H) J.gh sS sH (fun b h=>by
   have h':(if b∈F i then H b else S b)≠none:=h
   split at h'
   . rename_i hb;exact .inr (gs b hb).1
   . exact J.new b h') (fun _ _ _ _ h=>h) (fun _ _ _ h=>h) fun j a ha=>by
     show(if a∈F i then H a else S a)=none
     rw[if_neg (off j a ha)];exact(J1.live j a ha).2.2
 have J3:=J2.put (i:=i) (s:=some (.sh x)) (u:=some v) (fp:=[]) (fun t' e=>by
  cases e
  exact⟨_,rfl,rfl,ro.frozen sS ex fun a ha=>by show(if a∈F i then H a else S a)=H a;rw[if_pos ha]⟩) (fun a ha=>nomatch ha) fun j a _ ha=>nomatch ha
 rw[List.set_set,List.set_set,lF hv]at J3
 exact⟨S',sS,_,J3⟩
theorem qX{i:Nat}{ts:TS}{m:ag->OS}(h:JS K cls W ts m):JS K cls W ts (lB i m):=by
 intro Av G S₀ ρ σ S H D I p;unfold lB nz at p;split at p
 . rename_i t e;split at p
   . rename_i x ex;obtain⟨S',s,J⟩:=I.Jp e ex;exact h Av G S₀ _ σ S' H D J (p.back s)
   . exact h Av G S₀ ρ σ S H D I p
 . exact h Av G S₀ ρ σ S H D I p
theorem Hs{ks:List Str}{us:List (Str×V)}{f:Str}{y:V}(hk:us.map (·.1)=ks){k:Nat}(hf:∀ j,ks[j]?=some f->k<=j)(he:ks[k]?=some f):(kq f y us).map (·.1)=ks /\ (kq f y us).map (·.2)=(us.map (·.2)).set k y:=by
 induction us generalizing ks k with
 |nil=>subst hk;cases he
 | cons q us ih=>
   obtain⟨g,x⟩:=q;subst hk;unfold kq
   by_cases e:g=f
   . rw[if_pos e]
     have k0:k=0:=by have:=hf 0 (by simp[e]);omega
     subst k0
     exact⟨rfl,rfl⟩
   . rw[if_neg e]
     cases k with
     |zero=>simp at he;exact absurd he e
     | succ k=>
       obtain⟨h1,h2⟩:=ih (ks:=us.map (·.1)) (k:=k) rfl (fun j hj=>by have:=hf (j+1) (by simpa using hj);omega) (by simpa using he);simp[h1,h2]
theorem DT{us:List (Str×V)}{f:Str}{y:V}(h:f∉us.map (·.1)):kq f y us=us++[(f,y)]:=by
 induction us with
 |nil=>rfl
 | cons q us ih=>
   obtain⟨g,x⟩:=q;simp at h;unfold kq;rw[if_neg (fun z=>h.1 z.symm),ih (by simpa using h.2)];rfl
theorem AK{ks:List Str}{ts:List OV}{f:Str}(hl:ts.length=ks.length)(h:f∈ks):∃ k,ks[k]?=some f /\ (∀ j,ks[j]?=some f->k<=j) /\ k<ts.length /\ ∀ u,wI ks ts f u=ts.set k u:=by
 induction ks generalizing ts with
 |nil=>cases h
 | cons g ks ih=>
   cases ts with
   |nil=>cases hl
   | cons t ts=>
     by_cases e:g=f
     . subst e
       exact⟨0,rfl,fun j _=>Nat.zero_le _,by simp,fun u=>by simp[wI]⟩
     . obtain ⟨k,h1,h2,h3,h4⟩:=ih (ts:=ts) (by simpa using hl) (by
        rcases List.mem_cons.mp h with z|z
        . exact absurd z.symm e
        . exact z)
       refine⟨k+1,by simpa using h1,fun j hj=>?_,by simpa using h3,fun u=>by simp[wI,e,h4]⟩
       cases j with
       |zero=>simp at hj;exact absurd hj e
       |succ j=>have:=h2 j (by simpa using hj);omega
theorem Gz{i:Nat}{te tx:TE}{mp:MP}{f:Str}{okc:String->Bool}{md:ag->OD}(hp:JP K cls te i mp)(hx:JD K cls W tx md)(ha:∀ c C,cls c=some C->okc c=true->Cls K C /\ mQ K C f):JS K cls W (Kj K te tx f) (FU i mp f okc md):=by
 intro Av G S₀ ρ σ S H D I p;refine hx Av G S₀ ρ σ S H _ I ?_;unfold FU at p
 cases ed:md ρ with
 |exc c fs=>rw[ed]at p;exact fun a C S' H' w x=>p a C σ S' H' (I.grow w) w.s x
 |bad=>rw[ed]at p;exact p
 | ok x=>
   rw[ed]at p
   dsimp only at p
   obtain⟨io,t,π,u,hi,e0,e1,p⟩:=pW p;obtain⟨v0,hv⟩:=I.val hi
   cases u with
   |sh x=>exact p.elim
   |ol ts=>exact p.elim
   |di x=>exact p.elim
   |dt x=>exact p.elim
   | ob c ks ts=>
     dsimp only at p
     split at p
     . rename_i hok;rw[Bool.and_eq_true,decide_eq_true_eq]at hok;intro v S1 H1 w1 r1
       refine hp.at (I.grow w1) hi hv e0 e1 fun w S2 H2 w2 I2 wk=>?_
       obtain⟨F,J⟩:=id I;obtain⟨w0,f1,rest,wk',ro,pF,nd,gs,cc⟩:=J.part hi hv e1
       have wg:bq S H S2 H2:=w1.trans w2
       have:=wk.inj (wk'.mono wg.g);subst this;unfold bx at ro;obtain⟨q,C,dx,us,ff,rfl,hcl,hq,hd,hk,rfl,rs⟩:=ro;obtain⟨a1,a2⟩:=ha c C hcl hok.1;have nd1:=(List.nodup_append.mp nd).1
       have nq:q∉dx ::ff:=(List.nodup_cons.mp nd1).1
       have ndx':dx∉ff:=(List.nodup_cons.mp (List.nodup_cons.mp nd1).2).1
       have ndf:ff.Nodup:=(List.nodup_cons.mp (List.nodup_cons.mp nd1).2).2
       have hlen:us.length<1000:=by have:=congrArg List.length hk;simp at this;omega
       obtain⟨fx,rx,nx,gx⟩:=r1.grow w2
       refine⟨q,C,dx,us,rfl,wg.g _ _ hq,a1,a2,hlen,?_⟩
       have noS:∀ a∈q ::dx ::ff,S2 a=none:=fun a ha=>by
        cases z:S2 a with
        |none=>rfl
        | some o=>
          obtain⟨⟨o',h1,_⟩,_,h3⟩:=J.live i a (pF.mem_iff.mpr (List.mem_append_left _ ha))
          rcases wg.new a (by rw[z];simp)with y|y
          . exact absurd h3 y
          . rw[h1]at y;cases y
       have fin:∀ ks' ts' f',(kq f v us).map (·.1)=ks'->bB K cls S2 H2 ts' ((kq f v us).map (·.2)) f'->f'.Nodup->(∀ a∈f',a∈ff \/ (H a=none /\ S2 a=none)) ->
         SR K cls Av G S₀ (ρ.set i (some (.tr io (t.put π (.ob c ks' ts'))))) σ S2 (upd H2 q (.ins C dx (kq f v us))):=by
        intro ks' ts' f' hk' rs' nd' fr
        have nqf:q∉f':=fun z=>by
         rcases fr q z with y|y
         . exact nq (by simp[y])
         . rw[y.1]at hq;cases hq
        have ndf':dx∉f':=fun z=>by
         rcases fr dx z with y|y
         . exact ndx' y
         . rw[y.1]at hd;cases hd
        have ndq:dx≠q:=fun z=>nq (by simp[z])
        obtain⟨g,J3,_⟩:=cc S2 (upd H2 q (.ins C dx (kq f v us))) (.ob c ks' ts') (q ::dx ::f') wg.s (wg.sh.upd (noS q (by simp))) ((J.gh.trans wg.g).upd (gs q (by simp)).1) (fun b h=>by
          rcases wg.new b h with z|z
          . exact J.new b z
          . exact .inr (J.gh.free z)) (by
          unfold bx
          exact⟨q,C,dx,_,f',rfl,hcl,bQ,by rw[bL ndq];exact wg.g _ _ hd,hk',rfl,rs'.mono (aK.refl _) fun a ha o h=>by rw[bL (fun z=>nqf (by rw[<- z];exact ha))];exact h⟩)
         (List.nodup_cons.mpr ⟨fun z=>by
           rcases List.mem_cons.mp z with z|z
           . exact ndq z.symm
           . exact nqf z,List.nodup_cons.mpr ⟨ndf',nd'⟩⟩) (fun a ha=>by
           rcases List.mem_cons.mp ha with z|z
           . subst z;exact .inl (by simp)
           . rcases List.mem_cons.mp z with z|z
             . subst z;exact .inl (by simp)
             . rcases fr a z with y|y
               . exact .inl (by simp[y])
               . exact .inr y.1) (fun a ha=>by
           rcases List.mem_cons.mp ha with z|z
           . subst z;exact noS _ (by simp)
           . rcases List.mem_cons.mp z with z|z
             . subst z;exact noS _ (by simp)
             . rcases fr a z with y|y
               . exact noS a (by simp[y])
               . exact y.2) (fun a o hn h=>by rw[bL (fun z=>hn (by rw[z];simp))];exact wg.g _ _ h) fun a h=>by
           rcases wg.new a h with z|z
           . exact .inl z
           . exact .inr (.inl z)
        exact⟨_,J3⟩
       have hlts:ts.length=ks.length:=by rw[<- rs.length,<- hk];simp
       split at p
       . rename_i hc;obtain⟨k,h1,h2,h3,h4⟩:=AK hlts (by simpa using hc);obtain⟨k1,k2⟩:=Hs (y:=v) hk h2 h1;obtain⟨w3,g1,rest3,e3,r3,p3,c3⟩:=rs.at (k:=k) (u:=ts[k]) (by simp[h3])
         obtain⟨g,rg,pg⟩:=c3 S2 H2 x v fx wg.s rx fun a _ o h=>wg.g _ _ h
         have inff:∀ a∈rest3,a∈ff:=fun a ha=>p3.mem_iff.mpr (List.mem_append_right _ ha)
         have ndr:rest3.Nodup:=(List.nodup_append.mp (p3.nodup_iff.mp ndf)).2.1
         have ndg:g.Nodup:=pg.nodup_iff.mpr (List.nodup_append.mpr ⟨nx,ndr,fun a ha b hb z=>by
          subst z;obtain⟨o,h1,_⟩:=rs.live a (inff a hb)
          rw[(gx a ha).1]at h1;cases h1⟩)
         have q1:=fin ks (ts.set k x) g k1 (by rw[k2];exact rg) ndg fun a ha=>by
          rcases List.mem_append.mp (pg.mem_iff.mp ha)with z|z
          . exact .inr (gx a z)
          . exact .inl (inff a z)
         rw[h4]at p;exact p σ S2 _ q1 wg.s
       . rename_i hc
         have hn:f∉us.map (·.1):=by rw[hk];simpa using hc
         have e2:=DT (y:=v) hn
         have ndg:(ff++(fx++[])).Nodup:=by
          rw[List.append_nil]
          exact List.nodup_append.mpr ⟨ndf,nx,fun a ha b hb z=>by
           subst z;obtain⟨o,h1,_⟩:=rs.live a ha
           rw[(gx a hb).1]at h1;cases h1⟩
         have q1:=fin (ks++[f]) (ts++[x]) (ff++(fx++[])) (by rw[e2];simp[hk]) (by rw[e2,List.map_append];exact(rs.mono wg.s fun a _ o h=>wg.g _ _ h).append (.cons rx .nil)) ndg fun a ha=>by
          rw[List.append_nil]at ha
          rcases List.mem_append.mp ha with z|z
          . exact .inl z
          . exact .inr (gx a z)
         exact p σ S2 _ q1 wg.s
     . exact p.elim
end
open Classical in
noncomputable def minus(H:Hp)(Fc:Nat->List Addr):Hp:=fun a=>if ∃ k,a∈Fc k then none else H a
section
variable{K:PySem.W.Frag}{cls:String->Option Addr}{W:XW}{Av G S₀ S S' H H' B B':Hp}{ρ:ag}{σ:St}{Q:VK}{F Fc Fc':Nat->List Addr}
theorem Ax(h:a∈Fc k):minus H Fc a=none:=by unfold minus;rw[if_pos ⟨k,h⟩]
theorem jJ(h:∀ k,a∉Fc k):minus H Fc a=H a:=by unfold minus;rw[if_neg (fun ⟨k,z⟩=>h k z)]
theorem vb:aK (minus H Fc) H:=fun b u h=>by
 unfold minus at h;split at h
 . cases h
 . exact h
theorem oj(h:minus H Fc a=none):H a=none \/ ∃ k,a∈Fc k:=by
 unfold minus at h;split at h
 . rename_i z;exact .inr z
 . exact .inl h
def NK(K:PySem.W.Frag)(cls:String->Option Addr)(S H Hm:Hp):Sl->V->List Addr->Prop
 |.sh x,v,fp=>fp=[] /\ Rep K S x v
 |.tr true t,v,fp=>bx K cls S H t v fp /\ fp.Nodup
 |.bo t,v,fp=>fp=[] /\ ∃ f,bx K cls S Hm t v f
 |_,_,_=>False
structure Fo(K:PySem.W.Frag)(cls:String->Option Addr)(vs:List V)(S H:Hp)(Fc:Nat->List Addr)(outs:List (Option OV))(S' H':Hp)(Fc':Nat->List Addr):Prop where
 s:aK S S'
 sh:aK S' H'
 keep:aK (minus H Fc) H'
 new:∀ b,S' b≠none->S b≠none \/ H b=none \/ ∃ k,b∈Fc k
 out:∀ k t',outs[k]?=some (some t')->∃ u,vs[k]?=some u /\ bx K cls S' H' t' u (Fc' k) /\ (Fc' k).Nodup
 apart:∀ j k a,a∈Fc' j->a∈Fc' k->j=k
 live:∀ k a,a∈Fc' k->minus H Fc a=none /\ S' a=none
def LY(K:PySem.W.Frag)(cls:String->Option Addr)(vs:List V)(S H:Hp)(Fc:Nat->List Addr)(Q:VK)(E:XK):OI->Prop
 |.ok x outs=>∀ v S' H' Fc',Fo K cls vs S H Fc outs S' H' Fc'->Rep K S' x v->Q v H'
 |.exc c fs outs=>∀ a C S' H' Fc',Fo K cls vs S H Fc outs S' H' Fc'->oW K cls S' H' c fs a C->E (.ref C) (some a) H'
 |.bad=>False
structure F4(K:PySem.W.Frag)(cls:String->Option Addr)(as:List Sl)(vs:List V)(S H:Hp)(Fc:Nat->List Addr):Prop where
 sh:aK S H
 len:as.length=vs.length
 rel:∀(k:Nat) (s:Sl),as[k]?=some s->∃ v,vs[k]?=some v /\ NK K cls S H (minus H Fc) s v (Fc k)
 apart:∀ j k a,a∈Fc j->a∈Fc k->j=k
 live:∀ k a,a∈Fc k->(∃ o,H a=some o /\ isX o=false) /\ S a=none
def spI(K:PySem.W.Frag)(cls:String->Option Addr)(f:List Sl->OI):Sp:=fun vs H Q E=>∃ S as Fc,F4 K cls as vs S H Fc /\ LY K cls vs S H Fc Q E (f as)
theorem Gr{as:List Sl}{vs:List V}{N:List Str}{i:Nat}{s:Sl}(hl:as.length=vs.length)(e:(km N.length as)[i]?=some (some s)):as[i]?=some s /\ (L2.start N vs)[i]?=some ((vs[i]?)):=by
 unfold km at e
 by_cases hi:i<as.length
 . rw[List.getElem?_append_left (by simpa using hi),List.getElem?_map]at e
   have hx:as[i]?=some as[i]:=by simp[hi]
   rw[hx]at e;cases e
   refine⟨hx,?_⟩
   unfold L2.start;rw[List.getElem?_append_left (by rw[List.length_map,<- hl];exact hi),List.getElem?_map]
   have hv:vs[i]?=some (vs[i]'(by rw[<- hl];exact hi)):=by simp[<- hl,hi]
   rw[hv];rfl
 . rw[List.getElem?_append_right (by simpa using hi)]at e;rw[List.getElem?_replicate]at e
   split at e<;>cases e
def EK(vs:List V):Hp:=fun i=>(vs[i]?).map fun v=>.lst [v]
theorem SR.Ll{ρ':ag}(A:aK S H)(I:SR K cls (EK vs) (minus H Fc) S ρ' σ' S' H'):∃ Fc',Fo K cls vs S H Fc ((ρ'.take np).map pA) S' H' Fc':=by
 obtain⟨F,J⟩:=I
 refine⟨F,J.s0,J.sh,J.gh,fun b h=>?_,fun k t' e=>?_,J.apart,fun k a ha=>(J.live k a ha).2⟩
 . rcases J.new b h with z|z
   . exact .inl z
   . rcases oj z with y|y
     . exact .inr (.inl y)
     . exact .inr (.inr y)
 . rw[List.getElem?_map]at e;obtain⟨s,e1,e2⟩:=Option.map_eq_some_iff.mp e
   have e3:ρ'[k]?=some s:=by
    rw[List.getElem?_take]at e1;split at e1
    . exact e1
    . cases e1
   cases s with
   |none=>cases e2
   | some s=>
     cases s with
     | tr io t=>
       cases io with
       |false=>cases e2
       | true=>
         cases e2;obtain⟨v,ev,ro,nd,_,hio⟩:=J.own k _ e3;have:=hio rfl;unfold EK at this;obtain⟨u,eu,e4⟩:=Option.map_eq_some_iff.mp this;cases e4
         exact⟨v,eu,ro,nd⟩
     |sh x=>cases e2
     |ow x=>cases e2
     |ex c fs=>cases e2
     |bo t=>cases e2
theorem vY{P:Program}{w:World}{mg:Str->Option Value}{base:Heap}{x qual:Str}{st:Stmt}{f:Addr}{fd:FuncData}{N ps:List Str}{k:Nat}{m:ag->OS}(Fn:Fun K x qual st f fd)(Sc:aW N ps (aC st))
  (hbody:∀(cdv:Value) (A:Around) (outer:List Env) (s:Shared) (H:Hp) (E:XK),ik k (A.deeper (envOfC qual (aC st) s.heap.objs.size f cdv)) ->
    ∃ t,QSs (tT (CXE P w) P w K mg base N qual (aC st) f cdv A outer s H E) (dF st) t /\ JS K cls (fun C a _ H=>∀ H',aK H H'->E C a H') t m):cp P w K mg base (CXE P w) (k+1) f fd ps (spI K cls (fnI ps.length N.length m)):=by
 refine okX Fn Sc (fun vs H Q E h=>?_) fun cdv A outer s H vs Q E hr h=>?_
 . obtain⟨S,as,Fc,a,q⟩:=h;unfold fnI at q;split at q
   . rw[<- a.len];assumption
   . exact q.elim
 . obtain⟨S,as,Fc,a,q⟩:=h;unfold fnI at q;split at q
   . rename_i hl;obtain⟨t,ht,J⟩:=hbody cdv A outer s H E hr
     refine⟨t,ht.out,?_⟩
     have start:SR K cls (EK vs) (minus H Fc) S (km N.length as) (L2.start N vs) S H:=by
      refine⟨Fc,vb,aK.refl _,a.sh,fun _ z=>.inl z,fun i s e=>?_,a.apart,fun i b hb=>⟨(a.live i b hb).1,Ax hb,(a.live i b hb).2⟩,?_⟩
      . obtain⟨e1,e2⟩:=Gr a.len e;obtain⟨v,ev,r⟩:=a.rel i s e1;rw[ev]at e2
        refine⟨v,e2,?_⟩
        cases s with
        |sh x=>exact r
        |ow x=>exact r.elim
        |ex c fs=>exact r.elim
        | tr io t=>
          cases io with
          |false=>exact r.elim
          |true=>exact⟨r.1,r.2,fun b hb=>⟨Ax hb,(a.live i b hb).2⟩,fun _=>by unfold EK;rw[ev];rfl⟩
        |bo t=>exact r
      . unfold km L2.start;simp[a.len]
     refine J (EK vs) (minus H Fc) S (km N.length as) (L2.start N vs) S H _ start ?_
     cases e:m (km N.length as)with
     |nx ρ'=>rw[e]at q;exact fun σ' S' H' I' s'=>let ⟨Fc',E'⟩:=I'.Ll (np:=ps.length) a.sh;q .non S' H' Fc' E' (by unfold Rep;rfl)
     |bk ρ'=>rw[e]at q;exact q.elim
     |ct ρ'=>rw[e]at q;exact q.elim
     |bad=>rw[e]at q;exact q.elim
     | rt ρ' r=>
       rw[e]at q
       cases r with
       |al ys=>exact q.elim
       |fr ys=>exact q.elim
       |sh y=>exact fun v σ' S' H' I' s' rr=>let ⟨Fc',E'⟩:=I'.Ll (np:=ps.length) a.sh;q v S' H' Fc' E' rr
     | exc ρ' c fs=>
       rw[e]at q
       exact fun b C σ' S' H' I' s' x H2 g2=>let ⟨Fc',E'⟩:=(I'.same g2).Ll (np:=ps.length) a.sh;q b C S' H2 Fc' E' (x.mono (aK.refl _) g2)
   . exact q.elim
def AR1(K:PySem.W.Frag)(S H:Hp)(ρ:ag)(σ:St):Arg->Sl->V->Prop
 |.e _,.sh x,v=>Rep K S x v
 |.t i mp,.tr true u,v=>∃ io t π v0,ρ[i]?=some (some (.tr io t)) /\ mp ρ=some π /\ t.get π=some u /\ σ[i]?=some (some v0) /\ j4 H v0 π v
 |.b i mp,.bo u,v=>∃ t π v0,fU i ρ=some t /\ mp ρ=some π /\ t.get π=some u /\ σ[i]?=some (some v0) /\ j4 H v0 π v
 |_,_,_=>False
def ARs(K:PySem.W.Frag)(S H:Hp)(ρ:ag)(σ:St):List Arg->List Sl->List V->Prop
 |[],ss,vs=>ss=[] /\ vs=[]
 |a ::as,ss,vs=>∃ s sr v vr,ss=s ::sr /\ vs=v ::vr /\ AR1 K S H ρ σ a s v /\ ARs K S H ρ σ as sr vr
theorem AR1.mono(h:AR1 K S H ρ σ a s v)(s1:aK S S')(g:aK H H'):AR1 K S' H' ρ σ a s v:=by
 cases a with
 |e me=>cases s<;>first|exact h.elim|exact Rep.mono s1 h
 | t i mp=>
   cases s with
   | tr io u=>
     cases io with
     |false=>exact h.elim
     |true=>obtain⟨io,t,π,v0,h1,h2,h3,h4,h5⟩:=h;exact⟨io,t,π,v0,h1,h2,h3,h4,h5.mono g⟩
   |_=>exact h.elim
 | b i mp=>
   cases s with
   |bo u=>obtain⟨t,π,v0,h1,h2,h3,h4,h5⟩:=h;exact⟨t,π,v0,h1,h2,h3,h4,h5.mono g⟩
   |_=>exact h.elim
theorem ARs.at:∀{ss:List Sl} {vs:List V} {k:Nat} {a:Arg},ARs K S H ρ σ as ss vs->as[k]?=some a->∃ s v,ss[k]?=some s /\ vs[k]?=some v /\ AR1 K S H ρ σ a s v:=by
 induction as with
 |nil=>intro ss vs k a _ e;simp at e
 | cons b as ih=>
   rintro ss vs k a ⟨s,sr,v,vr,rfl,rfl,h1,h2⟩ e
   cases k with
   |zero=>simp at e;subst e;exact⟨s,v,rfl,rfl,h1⟩
   |succ k=>simp at e;obtain⟨s',v',e1,e2,r⟩:=ih h2 e;exact⟨s',v',by simpa using e1,by simpa using e2,r⟩
theorem ARs.len{as:List Arg}:∀{ss:List Sl} {vs:List V},ARs K S H ρ σ as ss vs->ss.length=as.length /\ vs.length=as.length:=by
 induction as with
 |nil=>intro ss vs h;rw[h.1,h.2];exact⟨rfl,rfl⟩
 | cons b as ih=>
   rintro ss vs ⟨s,sr,v,vr,rfl,rfl,h1,h2⟩
   have:=ih h2;simp[this]
def JAI(K:PySem.W.Frag)(cls:String->Option Addr)(t:TA)(as:List Arg):Prop:=∀ Av G S₀ ρ σ S H Q ss,SR K cls Av G S₀ ρ σ S H->i0 as ρ=some ss->(∀ vs S' H',bq S H S' H'->ARs K S' H' ρ σ as ss vs->Q vs H')->t σ H Q
def JA1(K:PySem.W.Frag)(cls:String->Option Addr)(te:TE)(a:Arg):Prop:=∀ Av G S₀ ρ σ S H Q s,SR K cls Av G S₀ ρ σ S H->kn a ρ=some s->(∀ v S' H',bq S H S' H'->AR1 K S' H' ρ σ a s v->Q v H')->te σ H Q
theorem zh{me:ag->OE}(h:JE K cls W te me):JA1 K cls te (.e me):=by
 intro Av G S₀ ρ σ S H Q s I e k;unfold kn at e
 dsimp only at e
 refine h Av G S₀ ρ σ S H Q I ?_
 cases em:me ρ with
 |exc c fs=>rw[em]at e;cases e
 |bad=>rw[em]at e;cases e
 | ok r=>
   rw[em]at e;obtain⟨x,e1,rfl⟩:=Option.map_eq_some_iff.mp e;intro v S1 H1 w1 r1;obtain⟨S2,w2,s2,rx⟩:=r1.share w1 e1;exact k v S2 H1 w2 rx
theorem oB(h:JP K cls te i mp):JA1 K cls te (.t i mp):=by
 intro Av G S₀ ρ σ S H Q s I e k;unfold kn at e
 dsimp only at e
 split at e
 . rename_i io t hi;obtain⟨u,e1,rfl⟩:=Option.map_eq_some_iff.mp e;obtain⟨π,e2,e3⟩:=Option.bind_eq_some_iff.mp e1;obtain⟨v0,hv⟩:=I.val hi
   exact h.at I hi hv e2 e3 fun w S1 H1 w1 I1 wk=>k w S1 H1 w1 ⟨io,t,π,v0,hi,e2,e3,hv,wk⟩
 . cases e
theorem Ij(h:JP K cls te i mp):JA1 K cls te (.b i mp):=by
 intro Av G S₀ ρ σ S H Q s I e k;unfold kn at e
 dsimp only at e
 obtain⟨u,e1,rfl⟩:=Option.map_eq_some_iff.mp e;unfold subAt at e1;split at e1
 . rename_i t et;split at e1
   . rename_i π eπ;obtain⟨v0,fp,hv,_⟩:=I.tree et
     exact h Av G S₀ ρ σ S H Q v0 t π I et hv eπ (by rw[e1];rfl) fun w S1 H1 w1 wk=>k w S1 H1 w1 ⟨t,π,v0,et,eπ,e1,hv,wk⟩
   . cases e1
 . cases e1
theorem mf:JAI K cls kL []:=by
 intro Av G S₀ ρ σ S H Q ss I e k;cases e;exact k [] S H (bq.refl I.sh) ⟨rfl,rfl⟩
theorem fg(h:JA1 K cls te a)(r:JAI K cls t as):JAI K cls (iY te t) (a ::as):=by
 intro Av G S₀ ρ σ S H Q ss I e k;unfold i0 at e;obtain⟨s,e1,e2⟩:=Option.bind_eq_some_iff.mp e;obtain⟨sr,e3,rfl⟩:=Option.map_eq_some_iff.mp e2
 refine h Av G S₀ ρ σ S H _ s I e1 fun v S1 H1 w1 h1=>?_
 refine r Av G S₀ ρ σ S1 H1 _ sr (I.grow w1) e3 fun vs S2 H2 w2 h2=>?_
 exact k (v ::vs) S2 H2 (w1.trans w2) ⟨s,sr,v,vs,rfl,rfl,h1.mono w2.s w2.g,h2⟩
end
section
variable{K:PySem.W.Frag}{cls:String->Option Addr}{W:XW}{Av G S₀ S S' H H' B B':Hp}{ρ:ag}{σ:St}{Q:VK}{F Fc Fc':Nat->List Addr}
def dn:List Arg->List Nat
 |[]=>[]
 |.t i _ ::as=>i ::dn as
 |_ ::as=>dn as
def tj:List Arg->List Nat
 |[]=>[]
 |.b i _ ::as=>i ::tj as
 |_ ::as=>tj as
def argsOk(as:List Arg):Bool:=decide (dn as).Nodup&&(tj as).all fun i=>!(dn as).contains i
theorem gT{as:List Arg}{k i:Nat}{mp:MP}(h:as[k]?=some (.t i mp)):i∈dn as:=by
 induction as generalizing k with
 |nil=>simp at h
 | cons a as ih=>
   cases k with
   |zero=>simp at h;subst h;simp[dn]
   | succ k=>
     simp at h;have:=ih h
     cases a<;>simp[dn,this]
theorem Bf{as:List Arg}{k i:Nat}{mp:MP}(h:as[k]?=some (.b i mp)):i∈tj as:=by
 induction as generalizing k with
 |nil=>simp at h
 | cons a as ih=>
   cases k with
   |zero=>simp at h;subst h;simp[tj]
   | succ k=>
     simp at h;have:=ih h
     cases a<;>simp[tj,this]
theorem nR{as:List Arg}(nd:(dn as).Nodup){j k i:Nat}{mp mp':MP}(h:as[j]?=some (.t i mp))(h':as[k]?=some (.t i mp')):j=k:=by
 induction as generalizing j k with
 |nil=>simp at h
 | cons a as ih=>
   cases j with
   | zero=>
     simp at h;subst h
     cases k with
     |zero=>rfl
     | succ k=>
       simp at h';have:=gT h';simp[dn]at nd;exact absurd this nd.1
   | succ j=>
     cases k with
     | zero=>
       simp at h';subst h';simp at h;have:=gT h;simp[dn]at nd;exact absurd this nd.1
     | succ k=>
       simp at h h'
       have nd':(dn as).Nodup:=by
        cases a with
        |t i' mp=>simp[dn]at nd;exact nd.2
        |e me=>exact nd
        |b i' mp=>exact nd
       rw[ih nd' h h']
theorem ua{as:List Arg}{i:Nat}(h:i∈dn as):∃(k:Nat) (mp:MP),as[k]?=some (.t i mp):=by
 induction as with
 |nil=>simp[dn]at h
 | cons a as ih=>
   cases a with
   | t j mp=>
     simp[dn]at h
     rcases h with h|h
     . subst h;exact⟨0,mp,rfl⟩
     . obtain⟨k,mp',e⟩:=ih h;exact⟨k+1,mp',by simpa using e⟩
   |e me=>obtain⟨k,mp',e⟩:=ih h;exact⟨k+1,mp',by simpa using e⟩
   |b j mp=>obtain⟨k,mp',e⟩:=ih h;exact⟨k+1,mp',by simpa using e⟩
theorem uB{as:List Arg}{ρ₀:ag}:∀{us:List (Option OV)} {ρ:ag} {i:Nat},i∉dn as->(fj ρ₀ as us ρ)[i]?=ρ[i]?:=by
 induction as with
 |nil=>intro us ρ i _;rfl
 | cons a as ih=>
   intro us ρ i h;unfold fj
   cases a with
   |e me=>rw[ih h];rfl
   |b j mp=>rw[ih h];rfl
   | t j mp=>
     simp[dn]at h;rw[ih h.2]
     have:∀ x:Option Sl,(ρ.set j x)[i]?=ρ[i]?:=fun x=>List.getElem?_set_ne (Ne.symm h.1)
     cases us.head?.join with
     |none=>exact this _
     | some u=>
       unfold jA;dsimp only;split
       . split
         . exact this _
         . exact this _
       . exact this _
theorem AG{as:List Arg}{ρ₀:ag}:∀{us:List (Option OV)} {ρ:ag} {i k:Nat} {mp:MP} {s:Sl},(dn as).Nodup->as[k]?=some (.t i mp)->(fj ρ₀ as us ρ)[i]?=some (some s) ->
  ∃ io t π u,us[k]?=some (some u) /\ ρ[i]?=some (some (.tr io t)) /\ mp ρ₀=some π /\ s=.tr io (t.put π u):=by
 induction as with
 |nil=>intro us ρ i k mp s _ h;simp at h
 | cons a as ih=>
   intro us ρ i k mp s nd h e;unfold fj at e
   cases k with
   | zero=>
     simp at h;subst h;simp[dn]at nd;rw[uB nd.1]at e
     cases us with
     | nil=>
       unfold jA at e;simp at e;rw[List.getElem?_set]at e;simp at e
     | cons u us=>
       cases u with
       | none=>
         unfold jA at e;simp at e;rw[List.getElem?_set]at e;simp at e
       | some u=>
         unfold jA at e;simp only[List.head?_cons,Option.join_some]at e;split at e
         . rename_i io t hi;split at e
           . rename_i π hπ;rw[List.getElem?_set]at e;simp at e
             exact⟨io,t,π,u,rfl,hi,hπ,e.2.symm⟩
           . rw[List.getElem?_set]at e;simp at e
         . rw[List.getElem?_set]at e;simp at e
   | succ k=>
     simp at h
     have nd':(dn as).Nodup:=by
      cases a with
      |t i' mp=>simp[dn]at nd;exact nd.2
      |e me=>exact nd
      |b i' mp=>exact nd
     obtain⟨io,t,π,u,e1,e2,e3,e4⟩:=ih nd' h e
     refine⟨io,t,π,u,?_,?_,e3,e4⟩
     . cases us with
       |nil=>simp at e1
       |cons _ us=>simpa using e1
     . cases a with
       |e me=>exact e2
       |b j mp=>exact e2
       | t j mp'=>
         have hij:i≠j:=by
          intro z;subst z;simp[dn]at nd;exact nd.1 (gT h)
         have:∀ x:Option Sl,(ρ.set j x)[i]?=ρ[i]?:=fun x=>List.getElem?_set_ne (Ne.symm hij)
         cases q:us.head?.join with
         |none=>rw[q]at e2;unfold jA at e2;simp only at e2;rw[this]at e2;exact e2
         | some u=>
           rw[q]at e2;unfold jA at e2;simp only at e2;split at e2
           . split at e2
             . rw[this]at e2;exact e2
             . rw[this]at e2;exact e2
           . rw[this]at e2;exact e2
theorem zl{as:List Arg}{ρ₀:ag}:∀{us:List (Option OV)} {ρ:ag},(fj ρ₀ as us ρ).length=ρ.length:=by
 induction as with
 |nil=>intro us ρ;rfl
 | cons a as ih=>
   intro us ρ;unfold fj;rw[ih];unfold jA;split
   . split
     . split<;>simp
     . simp
   . simp
   . rfl
theorem SR.Md{as:List Arg}{ss:List Sl}{vs:List V}(I:SR K cls Av G S₀ ρ σ S H)(ok:argsOk as=true)(h:ARs K S H ρ σ as ss vs):
  ∃ Fc,F4 K cls ss vs S H Fc /\ ∀ outs S' H' Fc',Fo K cls vs S H Fc outs S' H' Fc'->SR K cls Av G S₀ (fj ρ as outs ρ) σ S' H':=by
 obtain⟨F,J⟩:=I;unfold argsOk at ok;rw[Bool.and_eq_true,decide_eq_true_eq]at ok;obtain⟨nd,hb⟩:=ok
 have cell:∀ k:Nat,∃ d:List Addr×List Addr,(∀ i mp,as[k]?=some (.t i mp)->∃ io t π u v0 w,ss[k]?=some (.tr true u) /\ vs[k]?=some w /\ ρ[i]?=some (some (.tr io t)) /\ mp ρ=some π /\ t.get π=some u /\ σ[i]?=some (some v0) /\ bx K cls S H u w d.1 /\ (F i).Perm (d.1++d.2) /\ (d.1++d.2).Nodup /\ (io=true->Av i=some (.lst [v0])) /\
   ∀ S' H' u' f',aK S S'->bx K cls S' H' u' w f'->(∀ a∈d.2,∀ o,H a=some o->H' a=some o)->∃ g,bx K cls S' H' (t.put π u') v0 g /\ g.Perm (f'++d.2)) /\ ((∀ i mp,as[k]?≠some (.t i mp))->d=([],[])):=by
  intro k
  by_cases hk:∃ i mp,as[k]?=some (.t i mp)
  . obtain⟨i,mp,e⟩:=hk;obtain⟨s,w,es,ev,r⟩:=h.at e
    cases s with
    | tr io' u=>
      cases io' with
      |false=>exact r.elim
      | true=>
        obtain⟨io,t,π,v0,h1,h2,h3,h4,h5⟩:=r;obtain⟨v,ev',ro,ndf,gs,hio⟩:=J.own i _ h1;rw[h4]at ev';cases ev';obtain⟨w',f1,rest,wk,r1,p1,c1⟩:=ro.focus h3;have:=h5.inj wk;subst this
        refine⟨(f1,rest),fun i' mp' e'=>?_,fun z=>absurd e (z i mp)⟩
        rw[e]at e'
        cases e'
        exact⟨io,t,π,u,v0,w,es,ev,h1,h2,h3,h4,r1,p1,p1.nodup_iff.mp ndf,hio,c1⟩
    |sh x=>exact r.elim
    |ow x=>exact r.elim
    |ex c fs=>exact r.elim
    |bo x=>exact r.elim
  . exact⟨([],[]),fun i mp e=>absurd ⟨i,mp,e⟩ hk,fun _=>rfl⟩
 obtain⟨d,hd⟩:=Classical.axiomOfChoice cell
 have tOf:∀ k a,a∈(d k).1->∃ i mp,as[k]?=some (.t i mp) /\ a∈F i:=by
  intro k a ha
  by_cases hk:∃ i mp,as[k]?=some (.t i mp)
  . obtain⟨i,mp,e⟩:=hk;obtain⟨io,t,π,u,v0,w,_,_,_,_,_,_,_,p1,_⟩:=(hd k).1 i mp e
    exact⟨i,mp,e,p1.mem_iff.mpr (List.mem_append_left _ ha)⟩
  . rw[(hd k).2 fun i mp e=>hk ⟨i,mp,e⟩]at ha;cases ha
 have hlen:=h.len
 have uD:∀ i a,a∈F i->(∀ k mp,as[k]?=some (.t i mp)->a∉(d k).1)->∀ k,a∉(d k).1:=by
  intro i a ha hn k hk;obtain⟨i',mp,e,ha'⟩:=tOf k a hk;have:=J.apart i i' a ha ha';subst this;exact hn k mp e hk
 refine⟨fun k=>(d k).1,⟨J.sh,by rw[hlen.1,hlen.2],fun k s es=>?_,fun j k a h1 h2=>?_,fun k a ha=>?_⟩,fun outs S' H' Fc' E=>?_⟩
 . have hk:k<as.length:=by rw[<- hlen.1];exact(List.getElem?_eq_some_iff.mp es).1
   obtain⟨s',w,es',ev,r⟩:=h.at (k:=k) (a:=as[k]) (by simp[hk]);rw[es]at es';cases es'
   refine⟨w,ev,?_⟩
   cases q:as[k]with
   | e me=>
     rw[q]at r
     have hz:=(hd k).2 fun i mp e=>by rw[List.getElem?_eq_getElem hk,q]at e;cases e
     cases s<;>first|exact r.elim|exact⟨by rw[hz],r⟩
   | t i mp=>
     have eq:as[k]?=some (.t i mp):=by rw[List.getElem?_eq_getElem hk,q]
     obtain⟨io,t,π,u,v0,w',es',ev',_,_,_,_,r1,_,nd1,_⟩:=(hd k).1 i mp eq;rw[es]at es';cases es';rw[ev]at ev';cases ev'
     exact⟨r1,(List.nodup_append.mp nd1).1⟩
   | b i mp=>
     have eq:as[k]?=some (.b i mp):=by rw[List.getElem?_eq_getElem hk,q]
     rw[q]at r
     have hz:=(hd k).2 fun i mp e=>by rw[eq]at e;cases e
     cases s with
     | bo u=>
       obtain⟨t,π,v0,h1,h2,h3,h4,h5⟩:=r
       refine⟨by rw[hz],?_⟩
       have nt:i∉dn as:=by
        have:=List.all_eq_true.mp hb i (Bf eq)
        simpa using this
       have ro:∃ f,bx K cls S (minus H fun k=>(d k).1) t v0 f:=by
        unfold fU at h1
        cases q1:ρ[i]? with
        |none=>rw[q1]at h1;cases h1
        | some o=>
          cases o with
          |none=>rw[q1]at h1;cases h1
          | some s1=>
            rw[q1]at h1;obtain⟨v,ev',r⟩:=J.own i s1 q1;rw[h4]at ev';cases ev'
            cases s1 with
            | tr io t'=>
              cases h1
              exact⟨_,r.1.mono (aK.refl _) fun a ha o ho=>by
               rw[jJ (uD i a ha fun k' mp' e'=>absurd (gT e') nt)];exact ho⟩
            | bo t'=>
              cases h1;obtain⟨_,f,r⟩:=r
              exact⟨f,r.mono (aK.refl _) fun a ha o ho=>by
               rw[jJ fun k' hk'=>?_]
               . exact J.gh _ _ ho
               . obtain⟨i',mp',_,ha'⟩:=tOf k' a hk'
                 rw[(J.live i' a ha').2.1]at ho;cases ho⟩
            |sh x=>cases h1
            |ow x=>cases h1
            |ex c fs=>cases h1
       obtain⟨f,ro⟩:=ro;obtain⟨w',f1,rest,wk,r1,_,_⟩:=ro.focus h3;have:=h5.inj (wk.mono vb);subst this
       exact⟨f1,r1⟩
     |sh x=>exact r.elim
     |ow x=>exact r.elim
     |ex c fs=>exact r.elim
     |tr io x=>exact r.elim
 . obtain⟨i,mp,e1,m1⟩:=tOf j a h1;obtain⟨i',mp',e2,m2⟩:=tOf k a h2;have:=J.apart i i' a m1 m2;subst this;exact nR nd e1 e2
 . obtain⟨i,mp,e1,m1⟩:=tOf k a ha
   exact⟨(J.live i a m1).1,(J.live i a m1).2.2⟩
 .
  have noS:∀ i a,a∈F i->(∀ k,a∉(d k).1)->S' a=none:=fun i a ha hn=>by
   cases z:S' a with
   |none=>rfl
   | some o=>
     obtain⟨⟨o',h1,_⟩,_,h3⟩:=J.live i a ha
     rcases E.new a (by rw[z];simp)with y|y|⟨k,y⟩
     . exact absurd h3 y
     . rw[h1]at y;cases y
     . exact absurd y (hn k)
  have keep:∀ a o,(∀ k,a∉(d k).1)->H a=some o->H' a=some o:=fun a o hn ho=>E.keep a o (by rw[jJ hn];exact ho)
  have restOff:∀ k i mp,as[k]?=some (.t i mp)->∀ a∈(d k).2,a∈F i /\ ∀ k',a∉(d k').1:=fun k i mp e a ha=>by
   obtain⟨io,t,π,u,v0,w,_,_,_,_,_,_,_,p1,nd1,_⟩:=(hd k).1 i mp e
   have m:a∈F i:=p1.mem_iff.mpr (List.mem_append_right _ ha)
   refine⟨m,uD i a m fun k' mp' e' hk'=>?_⟩
   have:=nR nd e e';subst this
   exact(List.nodup_append.mp nd1).2.2 a hk' a ha rfl
  have gcell:∀ k:Nat,∃ g:List Addr,∀ i mp u',as[k]?=some (.t i mp)->outs[k]?=some (some u')->∀ io t π,ρ[i]?=some (some (.tr io t))->mp ρ=some π->∃ v0,σ[i]?=some (some v0) /\ (io=true->Av i=some (.lst [v0])) /\ bx K cls S' H' (t.put π u') v0 g /\ g.Perm (Fc' k++(d k).2):=by
   intro k
   by_cases hk:∃ i mp u',as[k]?=some (.t i mp) /\ outs[k]?=some (some u')
   . obtain⟨i,mp,u',e,eo⟩:=hk;obtain⟨io,t,π,u,v0,w,es,ev,h1,h2,h3,h4,r1,p1,nd1,hio,c1⟩:=(hd k).1 i mp e;obtain⟨w',ew,r',ndf'⟩:=E.out k u' eo;rw[ev]at ew;cases ew
     obtain⟨g,rg,pg⟩:=c1 S' H' u' (Fc' k) E.s r' fun a ha o ho=>keep a o (restOff k i mp e a ha).2 ho
     refine⟨g,fun i' mp' u'' e' eo' io' t' π' h1' h2'=>?_⟩
     rw[e]at e';cases e';rw[eo]at eo';cases eo';rw[h1]at h1';cases h1';rw[h2]at h2';cases h2'
     exact⟨v0,h4,hio,rg,pg⟩
   . exact⟨[],fun i mp u' e eo=>absurd ⟨i,mp,u',e,eo⟩ hk⟩
  obtain⟨g,hg⟩:=Classical.axiomOfChoice gcell
  have fcell:∀ i:Nat,∃ f:List Addr,(i∉dn as->f=F i) /\ ∀ k mp,as[k]?=some (.t i mp)->((∃ io t π u',ρ[i]?=some (some (.tr io t)) /\ mp ρ=some π /\ outs[k]?=some (some u'))->f=g k) /\ ((¬ ∃ io t π u',ρ[i]?=some (some (.tr io t)) /\ mp ρ=some π /\ outs[k]?=some (some u'))->f=[]):=by
   intro i
   by_cases hi:i∈dn as
   . obtain⟨k,mp,e⟩:=ua hi
     by_cases hx:∃ io t π u',ρ[i]?=some (some (.tr io t)) /\ mp ρ=some π /\ outs[k]?=some (some u')
     . refine⟨g k,fun z=>absurd hi z,fun k' mp' e'=>?_⟩
       have:=nR nd e e';subst this;rw[e]at e';cases e'
       exact⟨fun _=>rfl,fun z=>absurd hx z⟩
     . refine⟨[],fun z=>absurd hi z,fun k' mp' e'=>?_⟩
       have:=nR nd e e';subst this;rw[e]at e';cases e'
       exact⟨fun z=>absurd z hx,fun _=>rfl⟩
   . exact⟨F i,fun _=>rfl,fun k mp e=>absurd (gT e) hi⟩
  obtain⟨F',hF'⟩:=Classical.axiomOfChoice fcell
  have memF:∀ i a,a∈F' i->(i∉dn as /\ a∈F i /\ ∀ k,a∉(d k).1) \/ (∃ k mp,as[k]?=some (.t i mp) /\ F' i=g k /\ ((a∈Fc' k) \/ (a∈F i /\ ∀ k,a∉(d k).1)) /\ ∃ io t π u',ρ[i]?=some (some (.tr io t)) /\ mp ρ=some π /\ outs[k]?=some (some u')):=by
   intro i a ha
   by_cases hi:i∈dn as
   . obtain⟨k,mp,e⟩:=ua hi
     by_cases hx:∃ io t π u',ρ[i]?=some (some (.tr io t)) /\ mp ρ=some π /\ outs[k]?=some (some u')
     . have e1:=((hF' i).2 k mp e).1 hx;refine .inr ⟨k,mp,e,e1,?_,hx⟩;obtain⟨io,t,π,u',h1,h2,h3⟩:=hx;obtain⟨v0,_,_,rg,pg⟩:=hg k i mp u' e h3 io t π h1 h2;rw[e1]at ha
       rcases List.mem_append.mp (pg.mem_iff.mp ha)with z|z
       . exact .inl z
       . exact .inr (restOff k i mp e a z)
     . rw[((hF' i).2 k mp e).2 hx]at ha;cases ha
   . have e1:=(hF' i).1 hi;rw[e1]at ha;exact .inl ⟨hi,ha,uD i a ha fun k mp e=>absurd (gT e) hi⟩
  refine⟨F',?_,J.s0.trans E.s,E.sh,fun b hbn=>?_,fun i s e=>?_,fun i j a h1 h2=>?_,fun i a ha=>?_,?_⟩
  . intro b u hu;refine keep b u (fun k hk=>?_) (J.gh b u hu);obtain⟨i,mp,_,m⟩:=tOf k b hk;rw[(J.live i b m).2.1]at hu;cases hu
  . rcases E.new b hbn with z|z|⟨k,z⟩
    . exact J.new b z
    . exact .inr (J.gh.free z)
    . obtain⟨i,mp,_,m⟩:=tOf k b z;exact .inr (J.live i b m).2.1
  . by_cases hi:i∈dn as
    . obtain⟨k,mp,ek⟩:=ua hi;obtain⟨io,t,π,u,e1,e2,e3,rfl⟩:=AG nd ek e;obtain⟨v0,h1,hio,rg,pg⟩:=hg k i mp u ek e1 io t π e2 e3;have e4:=((hF' i).2 k mp ek).1 ⟨io,t,π,u,e2,e3,e1⟩;rw[e4];obtain⟨w',ew,r',ndf'⟩:=E.out k u e1
      refine⟨v0,h1,rg,pg.nodup_iff.mpr (List.nodup_append.mpr ⟨ndf',?_,fun a ha b hb' z=>?_⟩),fun a ha=>?_,hio⟩
      . obtain⟨_,_,_,_,_,_,_,_,_,_,_,_,_,_,nd1,_⟩:=(hd k).1 i mp ek
        exact(List.nodup_append.mp nd1).2.1
      . subst z;obtain⟨m,off⟩:=restOff k i mp ek a hb';have:=(E.live k a ha).1;rw[jJ off]at this;obtain⟨⟨o,ho,_⟩,_⟩:=J.live i a m;rw[this]at ho;cases ho
      . rcases List.mem_append.mp (pg.mem_iff.mp ha)with z|z
        . refine⟨?_,(E.live k a z).2⟩
          rcases oj (E.live k a z).1 with y|⟨k',y⟩
          . exact J.gh.free y
          . obtain⟨i',mp',_,m⟩:=tOf k' a y
            exact(J.live i' a m).2.1
        . obtain⟨m,off⟩:=restOff k i mp ek a z
          exact⟨(J.live i a m).2.1,noS i a m off⟩
    . rw[uB hi]at e;obtain⟨v,ev,r⟩:=J.own i s e;rw[(hF' i).1 hi]
      have off:∀ a∈F i,∀ k,a∉(d k).1:=fun a ha=>uD i a ha fun k mp e=>absurd (gT e) hi
      exact⟨v,ev,r.mono E.s (fun a ha o ho=>keep a o (off a ha) ho) (fun b o hx ho=>keep b o (fun k hk=>by
       obtain⟨i',mp',_,m⟩:=tOf k b hk;obtain⟨⟨o',h1,h2⟩,_⟩:=J.live i' b m
       rw[ho]at h1;cases h1;rw[hx]at h2;cases h2) ho) fun a ha=>noS i a ha (off a ha)⟩
  .
   have key:∀ i j a,a∈F' i->a∈F' j->(∃ k,a∈Fc' k)->∃ k mp,as[k]?=some (.t i mp) /\ a∈Fc' k:=by
    intro i j a ha _ ⟨k0,hk0⟩
    have no:∀ i',a∈F i'->¬ ∀ k,a∉(d k).1:=fun i' m off=>by
     have:=(E.live k0 a hk0).1;rw[jJ off]at this;obtain⟨⟨o,ho,_⟩,_⟩:=J.live i' a m;rw[this]at ho;cases ho
    rcases memF i a ha with⟨_,m,off⟩|⟨k,mp,e,_,z,_⟩
    . exact absurd off (no i m)
    . rcases z with z|⟨m,off⟩
      . exact⟨k,mp,e,z⟩
      . exact absurd off (no i m)
   by_cases hk:∃ k,a∈Fc' k
   . obtain⟨k1,mp1,e1,z1⟩:=key i j a h1 h2 hk;obtain⟨k2,mp2,e2,z2⟩:=key j i a h2 h1 hk;have:=E.apart k1 k2 a z1 z2;subst this;rw[e1]at e2;cases e2;rfl
   . have fromF:∀ i,a ∈ F' i -> a ∈ F i:=fun i ha=>by
      rcases memF i a ha with⟨_,m,_⟩|⟨k,mp,e,_,z,_⟩
      . exact m
      . rcases z with z|⟨m,_⟩
        . exact absurd ⟨k,z⟩ hk
        . exact m
     exact J.apart i j a (fromF i h1) (fromF j h2)
  . rcases memF i a ha with⟨_,m,off⟩|⟨k,mp,e,eg,z,io,t,π,u',x1,x2,x3⟩
    . obtain⟨⟨o,ho,hx⟩,hg',_⟩:=J.live i a m
      exact⟨⟨o,keep a o off ho,hx⟩,hg',noS i a m off⟩
    . obtain⟨v0,_,_,rg,pg⟩:=hg k i mp u' e x3 io t π x1 x2;rw[eg]at ha
      refine⟨rg.live a ha,?_⟩
      rcases z with z|⟨m,off⟩
      . refine⟨?_,(E.live k a z).2⟩
        rcases oj (E.live k a z).1 with y|⟨k',y⟩
        . exact J.gh.free y
        . obtain⟨i',mp',_,m⟩:=tOf k' a y
          exact(J.live i' a m).2.1
      . exact⟨(J.live i a m).2.1,noS i a m off⟩
  . rw[zl];exact J.len
end
end L2.P
namespace L2.E
open PySem PySem.Spec PyProof.Rows L2
section
variable{X:Cx}{k:Nat}{f C:Addr}{fd:FuncData}{ps:List Str}{sp:Sp}{ds:List Value}{W:XW}{x m:Str}{p pos apos:Pos}{e o:Expr}{es:List Expr}{ta:TE}{t:TA}
def yx(C:Addr)(m:Str)(sp:Sp)(W:XW)(ta:TE)(t:TA):TE:=fun σ H Q=>ta σ H fun x H1=>∃ a dx fs,x=.ref a /\ H1 a=some (.ins C dx fs) /\ fs.lookup m=none /\
 t σ H1 fun vs H2=>sp (x ::vs) H2 Q fun C a H'=>W C a σ H'
theorem vA{pl:Sem Bool}(he:QE X o ta)(c:Cls X.K C)(hm:Meth X.K C m f)(F:cp X.prog X.w X.K X.mg X.base (CXE X.prog X.w) k f fd ps sp)(hr:ik k X.A)(hb:Binds X.K fd ps [])(hx:Thr X W)(ha:QA X (e ::es) t)
  (hst:starEach (e ::es) X.env=(false,eval e X.env) ::starEach es X.env:=by rfl) (hpl:(backTo pos (starEach es X.env)).any (·.1)=false:=by rfl)
  (ht:eval (.Call (.Attribute o m apos) (e ::es) [] pos) X.env=(do
    let ov <- eval o X.env
    standAt apos.atName
    let (f,first) <- holding [ov] (getMethod ov m pl)
    callWith pos f first (backTo pos (starEach (e ::es) X.env)) (backToKw pos (keywordEach [] X.env))):=by rfl):
  QE X (.Call (.Attribute o m apos) (e ::es) [] pos) (yx C m sp W ta t):=⟨by
 intro pins s σ H Q I h;refine PySem.W.methodCall_KW (pl:=pl) (thn (he.out pins s σ H _ I h) fun u s1 ⟨x,H1,I1,rx,a,dx,fs,ex,ea,l,q⟩=>?_) ht;subst ex
 obtain rfl:u=Value.ref a:=rx
 refine vJ I1 ea c hm l ?_;refine PySem.W.callWith_K (first:=[.ref a]) (h₀:=X.base) I.ok.mod.kin hm.kp (thn (ha.out pos pins s1 σ H1 _ I1 q) fun us s2 ⟨vs,H2,I2,r,q2⟩=>⟨I2.kIn,?_⟩) hst hpl
 exact uS (us:=.ref a ::us) (vs:=.ref a ::vs) (dvs:=[]) F hr hb .nil hx I2 (.cons rfl r) (by rw[List.append_nil];exact q2)⟩
theorem wK{pl:Sem Bool}(he:QE X o ta)(c:Cls X.K C)(hm:Meth X.K C m f)(F:cp X.prog X.w X.K X.mg X.base (CXE X.prog X.w) k f fd ps sp)(hr:ik k X.A)(hb:Binds X.K fd ps [])(hx:Thr X W)
  (ht:eval (.Call (.Attribute o m apos) [] [] pos) X.env=(do
    let ov <- eval o X.env
    standAt apos.atName
    let (f,first) <- holding [ov] (getMethod ov m pl)
    callWith pos f first (backTo pos (starEach [] X.env)) (backToKw pos (keywordEach [] X.env))):=by rfl):
  QE X (.Call (.Attribute o m apos) [] [] pos) (yx C m sp W ta kL):=⟨by
 intro pins s σ H Q I h;refine PySem.W.methodCall_KW (pl:=pl) (thn (he.out pins s σ H _ I h) fun u s1 ⟨x,H1,I1,rx,a,dx,fs,ex,ea,l,q⟩=>?_) ht;subst ex
 obtain rfl:u=Value.ref a:=rx
 refine vJ I1 ea c hm l ?_
 exact PySem.W.callWith_K0 (first:=[.ref a]) I1.kIn hm.kp (uS (us:=[.ref a]) (vs:=[.ref a]) (dvs:=[]) F hr hb .nil hx I1 (.cons rfl .nil) q)⟩
theorem wV(F:cp X.prog X.w X.K X.mg X.base (CXE X.prog X.w) k f fd ps sp)(hr:ik k X.A)(hg:Gl X x)(hm:X.mg x=some (.ref f))(hk:PySem.W.keepIn X.K (.ref f)=true)(hb:Binds X.K fd ps [])(hx:Thr X W)
  (hdb:(x==("__debug__":Str))=false:=by decide):QE X (.Call (.Name x p) [] [] pos) (q8 sp [] W kL):=⟨CL F hr hg hm hk hb .nil hx hdb⟩
theorem zp(M:Mk X.K C f)(F:cp X.prog X.w X.K X.mg X.base (CXE X.prog X.w) k f fd ps sp)(hr:ik (k+1) X.A)(hg:Gl X x)(hm:X.mg x=some (.ref C))(hb:Binds X.K fd ps [])(hdb:(x==("__debug__":Str))=false:=by decide):
  QE X (.Call (.Name x p) [] [] pos) (Fy C sp [] (fun _ _ _=>False) kL):=⟨DO M F hr hg hm hb .nil (fun pins σ H s e s' I h=>by obtain⟨a,C,dx,H',_,_,_,_,_,_,z⟩:=h;exact z.elim) hdb⟩
theorem tS{f:Str}(he:QE X e ta)(hb:attributeBase e f X.env (eval e X.env)=eval e X.env:=by rfl):QE X (.Attribute e f pos) (Jm X.K ta f):=⟨KH he.out hb⟩
theorem Jj{f:Str}{value:Expr}{tv:TE}{pos':Pos}(ha:QE X o ta)(hv:QE X value tv)(hs:swapsWith value (some (.Attribute o f pos')) pos.line X.env=pure false:=by rfl):QS X (.Assign [.Attribute o f pos'] value pos) (Kj X.K ta tv f):=⟨KA ha.out hv.out hs⟩
end
end L2.E
namespace L2.P
open PySem PySem.Spec PyProof.Rows L2 L2.E
section
variable{K:PySem.W.Frag}{cls:String->Option Addr}{W:XW}{Av G S₀ S S' H H' B B':Hp}{ρ:ag}{σ:St}{Q:VK}{F Fc Fc':Nat->List Addr}
theorem SR.more(I:SR K cls Av G S₀ ρ σ S H)(h:Rep K S x v):SR K cls Av G S₀ (ρ++[some (.sh x)]) (σ++[some v]) S H:=by
 obtain⟨F,J⟩:=I
 exact J.more (fp:=[]) (fun t e=>by cases e;exact⟨v,rfl,rfl,h⟩) (fun a ha=>nomatch ha) fun j a _ ha=>nomatch ha
theorem vw{f:List Sl->OI}(ok:argsOk as=true)(I:SR K cls Av G S₀ ρ σ S1 H1)(s1:aK S S1)(ar:ARs K S1 H1 ρ σ as ss vs)
  (p:Jg K cls W Av G S₀ σ S Q (match f ss with
    |.ok x outs=>.ok (fj ρ as outs ρ) (.sh x)
    |.exc c fs outs=>.exc (fj ρ as outs ρ) c fs
    |.bad=>.bad)):spI K cls f vs H1 Q fun C a H'=>W C a σ H':=by
 obtain⟨Fc,A,fin⟩:=I.Md ok ar
 refine⟨S1,ss,Fc,A,?_⟩
 cases e:f ss with
 |bad=>rw[e]at p;exact p
 |ok x outs=>rw[e]at p;exact fun v S' H' Fc' E r=>p v S' H' ((fin outs S' H' Fc' E).more r) (s1.trans E.s)
 |exc c fs outs=>rw[e]at p;exact fun a C S' H' Fc' E r=>p a C S' H' (fin outs S' H' Fc' E) (s1.trans E.s) r
theorem vD{f:List Sl->OI}(ok:argsOk as=true)(h:JAI K cls t as):JX K cls W (q8 (spI K cls f) [] W t) (iS f as):=by
 intro Av G S₀ ρ σ S H Q I p;unfold iS at p
 cases e:i0 as ρ with
 |none=>rw[e]at p;exact p.elim
 | some ss=>
   rw[e]at p
   refine h Av G S₀ ρ σ S H _ ss I e fun vs S1 H1 w1 ar=>?_
   show spI K cls f (vs++[]) H1 Q _;rw[List.append_nil];exact vw ok (I.grow w1) w1.s ar p
theorem CC(hc:cls c=some C)(I:SR K cls Av G S₀ ρ σ S H)(r:AR1 K S H ρ σ a s v)(h:recv c m (some s)=true):∃ q dx us,v=.ref q /\ H q=some (.ins C dx us) /\ us.lookup m=none:=by
 have main:∀(ks:List Str) (ts:List OV) (f:List Addr),(c==c && !ks.contains m)=true->bx K cls S H (.ob c ks ts) v f->∃ q dx us,v=.ref q /\ H q=some (.ins C dx us) /\ us.lookup m=none:=by
  intro ks ts f hk ro;unfold bx at ro;obtain⟨q,C',dx,us,ff,rfl,hcl,hq,hd,hks,rfl,rs⟩:=ro;rw[hc]at hcl;cases hcl
  refine⟨q,dx,us,rfl,hq,?_⟩
  have hn:m∉us.map (·.1):=by rw[hks];simpa using hk
  clear hks hk rs hq
  induction us with
  |nil=>rfl
  | cons p us ih=>
    obtain⟨g,y⟩:=p;simp at hn
    have:(m==g)=false:=by simpa using hn.1
    simp[List.lookup,this,ih (by simpa using hn.2)]
 cases a with
 |e me=>cases s<;>first|exact r.elim|cases h
 | t i mp=>
   cases s with
   | tr io u=>
     cases io with
     |false=>cases h
     | true=>
       cases u with
       |sh x=>cases h
       |ol ts=>cases h
       |di x=>cases h
       |dt x=>cases h
       | ob c' ks ts=>
         obtain⟨io,t,π,v0,h1,h2,h3,h4,h5⟩:=r
         have h':(c'==c && !ks.contains m)=true:=h
         have hcc:c'=c:=by rw[Bool.and_eq_true]at h';simpa using h'.1
         subst hcc;obtain⟨v',fp,ev,ro⟩:=I.tree (i:=i) (t:=t) (by unfold fU;rw[h1];rfl);rw[h4]at ev;cases ev;obtain⟨w,f1,rest,wk,r1,_,_⟩:=ro.focus h3;have:=h5.inj wk;subst this;exact main ks ts f1 h' r1
   |sh x=>exact r.elim
   |ow x=>exact r.elim
   |ex c fs=>exact r.elim
   |bo x=>exact r.elim
 | b i mp=>
   cases s with
   | bo u=>
     cases u with
     |sh x=>cases h
     |ol ts=>cases h
     |di x=>cases h
     |dt x=>cases h
     | ob c' ks ts=>
       obtain⟨t,π,v0,h1,h2,h3,h4,h5⟩:=r
       have h':(c'==c && !ks.contains m)=true:=h
       have hcc:c'=c:=by rw[Bool.and_eq_true]at h';simpa using h'.1
       subst hcc;obtain⟨v',fp,ev,ro⟩:=I.tree h1;rw[h4]at ev;cases ev;obtain⟨w,f1,rest,wk,r1,_,_⟩:=ro.focus h3;have:=h5.inj wk;subst this;exact main ks ts f1 h' r1
   |sh x=>exact r.elim
   |ow x=>exact r.elim
   |ex c fs=>exact r.elim
   |tr io x=>exact r.elim
theorem wt{f:List Sl->OI}(hc:cls c=some C)(ok:argsOk (a ::as)=true)(ha:JA1 K cls ta a)(h:JAI K cls t as):JX K cls W (yx C m (spI K cls f) W ta t) (lp c m f (a ::as)):=by
 intro Av G S₀ ρ σ S H Q I p;unfold lp at p
 dsimp only at p
 split at p
 . rename_i hr;unfold iS at p
   cases e:i0 (a ::as) ρ with
   |none=>rw[e]at p;exact p.elim
   | some ss=>
     rw[e]at p
     have e':=e
     unfold i0 at e';obtain⟨s,e1,e2⟩:=Option.bind_eq_some_iff.mp e';obtain⟨sr,e3,rfl⟩:=Option.map_eq_some_iff.mp e2;rw[e1]at hr
     refine ha Av G S₀ ρ σ S H _ s I e1 fun v S1 H1 w1 r1=>?_
     have I1:=I.grow w1;obtain⟨q,dx,us,rfl,hq,hl⟩:=CC hc I1 r1 hr
     refine⟨q,dx,us,rfl,hq,hl,?_⟩
     refine h Av G S₀ ρ σ S1 H1 _ sr I1 e3 fun vs S2 H2 w2 ar=>?_
     exact vw (ss:=s ::sr) ok (I1.grow w2) (w1.s.trans w2.s) ⟨s,sr,_,vs,rfl,rfl,r1.mono w2.s w2.g,ar⟩ p
 . exact p.elim
theorem AW{f:List Sl->OI}(ok:dn as=[])(I:SR K cls Av G S₀ ρ σ S H)(ar:ARs K S H ρ σ as ss vs)
  (p:lU K cls W σ S H Q (match f ss with
    |.ok x _=>.ok (.sh x)
    |.exc c fs _=>.exc c fs
    |.bad=>.bad)):spI K cls f vs H Q fun C a H'=>W C a σ H':=by
 have hm:minus H (fun _=>[])=H:=by funext a;exact jJ fun k h=>nomatch h
 have hlen:=ar.len
 refine⟨S,ss,fun _=>[],⟨I.sh,by rw[hlen.1,hlen.2],fun k s es=>?_,fun j k a h=>(nomatch h),fun k a h=>(nomatch h)⟩,?_⟩
 . have hk:k<as.length:=by rw[<- hlen.1];exact(List.getElem?_eq_some_iff.mp es).1
   obtain⟨s',w,es',ev,r⟩:=ar.at (k:=k) (a:=as[k]) (by simp[hk]);rw[es]at es';cases es'
   refine⟨w,ev,?_⟩
   cases q:as[k]with
   | e me=>
     rw[q]at r
     cases s<;>first|exact r.elim|exact⟨rfl,r⟩
   | t i mp=>
     have:=gT (as:=as) (k:=k) (i:=i) (mp:=mp) (by rw[List.getElem?_eq_getElem hk,q]);rw[ok]at this;cases this
   | b i mp=>
     rw[q]at r
     cases s with
     | bo u=>
       obtain⟨t,π,v0,h1,h2,h3,h4,h5⟩:=r;obtain⟨v',fp,ev',ro⟩:=I.tree h1;rw[h4]at ev';cases ev';obtain⟨w',f1,rest,wk,r1,_,_⟩:=ro.focus h3;have:=h5.inj wk;subst this
       exact⟨rfl,f1,by rw[hm];exact r1⟩
     |sh x=>exact r.elim
     |ow x=>exact r.elim
     |ex c fs=>exact r.elim
     |tr io x=>exact r.elim
 . have gr:∀ {outs S' H' Fc'},Fo K cls vs S H (fun _=>[]) outs S' H' Fc' -> bq S H S' H':=fun {outs S' H' Fc'} E=>⟨E.s,by have:=E.keep; rwa [hm] at this,E.sh,fun b hb=>by
    rcases E.new b hb with z|z|⟨k,z⟩
    . exact .inl z
    . exact .inr z
    . cases z⟩
   cases e:f ss with
   |bad=>rw[e]at p;exact p
   |ok x outs=>rw[e]at p;exact fun v S' H' Fc' E r=>p v S' H' (gr E) r
   |exc c fs outs=>rw[e]at p;exact fun a C S' H' Fc' E r=>p a C S' H' (gr E) r
theorem y9{f:List Sl->OI}(hc:cls c=some C)(ok:dn (a ::as)=[])(ha:JA1 K cls ta a)(h:JAI K cls t as):JE K cls W (yx C m (spI K cls f) W ta t) (nZ c m f (a ::as)):=by
 intro Av G S₀ ρ σ S H Q I p;unfold nZ at p
 dsimp only at p
 split at p
 . rename_i hr;unfold yt at p
   cases e:i0 (a ::as) ρ with
   |none=>rw[e]at p;exact p.elim
   | some ss=>
     rw[e]at p
     have e':=e
     unfold i0 at e';obtain⟨s,e1,e2⟩:=Option.bind_eq_some_iff.mp e';obtain⟨sr,e3,rfl⟩:=Option.map_eq_some_iff.mp e2;rw[e1]at hr
     refine ha Av G S₀ ρ σ S H _ s I e1 fun v S1 H1 w1 r1=>?_
     have I1:=I.grow w1;obtain⟨q,dx,us,rfl,hq,hl⟩:=CC hc I1 r1 hr
     refine⟨q,dx,us,rfl,hq,hl,?_⟩
     refine h Av G S₀ ρ σ S1 H1 _ sr I1 e3 fun vs S2 H2 w2 ar=>?_
     exact AW (ss:=s ::sr) ok (I1.grow w2) ⟨s,sr,_,vs,rfl,rfl,r1.mono w2.s w2.g,ar⟩ (p.back (w1.trans w2))
 . exact p.elim
theorem CD{f:List Sl->OI}(hc:cls c=some C):JD K cls W (Fy C (spI K cls f) [] (fun _ _ _=>False) kL) (sA c f):=by
 intro Av G S₀ ρ σ S H Q I p;unfold sA at p
 show ∀ x dx,H x=none->H dx=none->dx≠x->_
 intro x dx hx hdx ne
 have gS:∀ a,H a=none->S a=none:=fun a h=>I.sh.free h
 let H1:=upd (upd H dx (.own x)) x (.ins C dx [])
 have h1x:H1 x=some (.ins C dx []):=bQ
 have h1d:H1 dx=some (.own x):=by show upd _ x _ dx=_;rw[bL ne,bQ]
 have h1o:∀ a,a≠x->a≠dx->H1 a=H a:=fun a n1 n2=>by show upd _ x _ a=_;rw[bL n1,bL n2]
 let Fc:Nat->List Addr:=fun k=>if k=0 then[x,dx]else[]
 have mF:∀ k a,a∈Fc k->k=0 /\ (a=x \/ a=dx):=fun k a h=>by
  have h':a∈(if k=0 then[x,dx]else[]):=h
  split at h'
  . rename_i e;exact⟨e,by simpa using h'⟩
  . cases h'
 have A:F4 K cls [.tr true (.ob c [] [])] [.ref x] S H1 Fc:=by
  refine⟨fun b u h=>?_,rfl,fun k s e=>?_,fun j k a h1 h2=>?_,fun k a h=>?_⟩
  . have hb:=I.sh b u h;rw[h1o b (fun z=>by rw[z,hx]at hb;cases hb) (fun z=>by rw[z,hdx]at hb;cases hb)];exact hb
  . cases k with
    | zero=>
      cases e
      refine⟨.ref x,rfl,?_,?_⟩
      . unfold bx
        exact⟨x,C,dx,[],[],rfl,hc,h1x,h1d,rfl,rfl,.nil⟩
      . show[x,dx].Nodup
        simp[Ne.symm ne]
    |succ k=>simp at e
  . rw[(mF j a h1).1,(mF k a h2).1]
  . rcases(mF k a h).2 with z|z
    . subst z;exact⟨⟨_,h1x,rfl⟩,gS _ hx⟩
    . subst z;exact⟨⟨_,h1d,rfl⟩,gS _ hdx⟩
 refine⟨S,_,Fc,A,?_⟩
 have free:∀ a,minus H1 Fc a=none->H a=none:=fun a h=>by
  rcases oj h with z|⟨k,z⟩
  . by_cases n1:a=x
    . rw[n1];exact hx
    . by_cases n2:a=dx
      . rw[n2];exact hdx
      . rw[h1o a n1 n2]at z;exact z
  . rcases(mF k a z).2 with y|y
    . rw[y];exact hx
    . rw[y];exact hdx
 cases e:f [.tr true (.ob c [] [])]with
 |bad=>rw[e]at p;exact p.elim
 |exc c fs outs=>rw[e]at p;exact p.elim
 | ok y outs=>
   rw[e]at p
   cases y with
   | non=>
     cases outs with
     |nil=>exact p.elim
     | cons o outs=>
       cases o with
       |none=>exact p.elim
       | some t=>
         dsimp only at p
         intro v S' H' Fc' E r;unfold Rep at r
         refine⟨r,p (.ref x) S' H' ⟨E.s,fun b u h=>?_,E.sh,fun b h=>?_⟩ ?_⟩
         . have n1:b≠x:=fun z=>by rw[z,hx]at h;cases h
           have n2:b≠dx:=fun z=>by rw[z,hdx]at h;cases h
           refine E.keep b u ?_;rw[jJ fun k z=>?_]
           . exact(h1o b n1 n2).trans h
           . rcases(mF k b z).2 with y|y
             . exact n1 y
             . exact n2 y
         . rcases E.new b h with z|z|⟨k,z⟩
           . exact .inl z
           . refine .inr ?_
             by_cases n1:b=x
             . rw[n1];exact hx
             . by_cases n2:b=dx
               . rw[n2];exact hdx
               . exact(h1o b n1 n2).symm.trans z
           . rcases(mF k b z).2 with y|y
             . rw[y];exact .inr hx
             . rw[y];exact .inr hdx
         . obtain⟨u,eu,ro,nd⟩:=E.out 0 t rfl;cases eu
           exact⟨Fc' 0,ro,nd,fun a ha=>⟨free a (E.live 0 a ha).1,(E.live 0 a ha).2⟩⟩
   |bl b=>exact p.elim
   |int b=>exact p.elim
   |str b=>exact p.elim
   |lst b=>exact p.elim
   |tup b=>exact p.elim
end
end L2.P
namespace L2.E
open PySem PySem.Spec PyProof.Rows L2
def r6(wi:TI)(ι:List Nat)(tc:TT)(te:TE):TE:=fun σ H Q=>wi σ H fun J H1=>∀ D,H1 D=none->∃ W:Nat->Nat->List V->Hp->Prop,(∃ m,W 0 m [] (upd H1 D (.lst []))) /\ ∀ i m ys H,W i m ys H ->
 H D=some (.lst ys) /\ ((J.stop i H /\ Q (.ref D) H) \/ (J.go i H /\ ∀ x H',J.yld i H x H'->tc (pick ι σ++[some x]) H' fun b H3=>H3 D=some (.lst ys) /\ if b=true then
   te (pick ι σ++[some x]) H3 fun y H2=>H2 D=some (.lst ys) /\ ys.length<sizeLine /\ ∃ m',m'<m /\ W (i+1) m' (ys++[y]) (upd H2 D (.lst (ys++[y])))else ∃ m',m'<m /\ W (i+1) m' ys H3))
section
variable{X:Cx}{scope:Scope}{cl:List (Str×Addr)}{M:List Str}{ι:List Nat}{x:Str}
theorem CK{elt iter c:Expr}{px pos:Pos}{wi:TI}{tc:TT}{te:TE}(S:lu X scope cl M ι x)(hc:X.calm=true)(hi:PI X (.Name x px) iter wi)(hcd:∀ C s₀ H₀ ex,PT (blk X scope cl (M++[x]) C s₀ H₀ ex) c tc)(he:∀ C s₀ H₀ ex,PE (blk X scope cl (M++[x]) C s₀ H₀ ex) elt te)
  (hs:∀ v,foldedSetIterable iter X.env v=pure v:=by intro _;rfl):PE X (.ListComp elt [⟨.Name x px,iter,[c],0⟩] scope pos) (r6 wi ι tc te):=by
 intro pins s σ H Q I h;rw[eval_ListComp];refine wpAny_comprehension_free (use:=none) rfl hs S.clos S.kind (fun y hy hl=>?_) (wpAny_mono (hi pins s σ H _ I h) (fun v s1 h1=>wpAny_mono h1 (fun itv s2 h2=>?_) fun _ _ z=>z) fun _ _ z=>z)
 . have q:=List.all_eq_true.mp S.locs y hy;rw[hl]at q
   simpa using q
 obtain⟨it,fp,tn,J,H2,rfl,I2,T,st2,f2,hW⟩:=h2;have I3:=I2.Ei (ys:=[]) (its:=[]) (t':=s2.toks) .nil (Nat.zero_le _);obtain⟨W,⟨m0,w0⟩,turn⟩:=hW s2.heap.objs.size I2.fresh
 have fpo:∀ b∈fp,b<s2.heap.objs.size:=fun b hb=>let ⟨_,e,_⟩:=T.obj _ _ st2 b hb;Heap.lt_size e
 have f3:∀ b∈fp,ni X pins (upd H2 s2.heap.objs.size (.lst [])) b:=fun b hb=>by
  obtain⟨q0,q⟩:=f2 b hb
  exact⟨by rw[bL (Nat.ne_of_lt (fpo b hb))];exact q0,q⟩
 show wpAny _ _ (newObj (.type "list") _ none) _ _ s2;refine wpAny_newObj_type (wpAny_newFunctionEnv (fun y hy=>?_) (by intro y hy;simp at hy) (fun h₁ hn₁ sb₁=>?_) S.kind)
 . have q:=List.all_eq_true.mp S.nocell y hy
   simpa using q
 have hsz:(s2.heap.push { cls:=.type "list",dict:=none,data:=.seq ([]:List Value).toArray }).objs.size=s2.heap.objs.size+1:=Heap.size_push ..
 have hk₁:∀ b o,(s2.heap.push { cls:=.type "list",dict:=none,data:=.seq ([]:List Value).toArray }).get? b=some o->h₁.get? b=some o:=fun b o e=>
  (sb₁.2 b (Nat.ne_of_lt (Heap.lt_size e))).trans (Heap.get?_push_of_some _ e)
 have J0:=yw (t':=s2.toks+([]:List (Str×Value)).length) S I3 (ex:=fp) (fun b hb=>⟨f3 b hb,Nat.lt_of_lt_of_le (fpo b hb) (by rw[hsz];exact Nat.le_succ _)⟩) hn₁ hk₁
 have old:∀ b∈fp,∀ o,s2.heap.get? b=some o->h₁.get? b=some o:=fun b _ o e=>hk₁ b o (Heap.get?_push_of_some _ e)
 have st₁:tn 0 h₁:=T.keep _ _ _ st2 old
 have loop:codeAny (model X.prog X.w) X.A (.compLoop (.ListComp elt [⟨.Name x px,iter,[c],0⟩] scope pos) 0 (.ref it) (.ref s2.heap.objs.size) (compEnvC scope cl (s2.heap.objs.size+1) X.env))
   (compPost (model X.prog X.w) X.A X.xe none (EP X pins σ Q) (.ref s2.heap.objs.size) (s2.heap.objs.size+1)) { s2 with heap:=h₁,toks:=s2.toks+([]:List (Str×Value)).length }:=by
  rw[hsz]at J0
  refine codeAny_loop rfl (fun n s'=>∃ i H' ys v,Inv (blk X scope cl (M++[x]) (s2.heap.objs.size+1) { s2 with heap:=s2.heap.push { cls:=.type "list",data:=.seq ([]:List Value).toArray },toks:=s2.toks } (upd H2 s2.heap.objs.size (.lst [])) fp) [] (pick ι σ++[v]) H' s' /\ tn i s'.heap /\ (∀ b∈fp,H' b=none) /\ W i n ys H')
   (fun n s' hI=>?_) m0 ⟨0,_,[],none,J0,st₁,fun b hb=>(f3 b hb).1,w0⟩
  obtain⟨i,H',ys,v,J',st',fr',w'⟩:=hI;obtain⟨hD,alt⟩:=turn i n ys H' w'
  have fpY:∀{G:Hp},(∀ b∈fp,G b=none)->∀ b∈fp,ni (blk X scope cl (M++[x]) (s2.heap.objs.size+1) { s2 with heap:=s2.heap.push { cls:=.type "list",data:=.seq ([]:List Value).toArray },toks:=s2.toks } (upd H2 s2.heap.objs.size (.lst [])) fp) [] G b:=fun hG b hb=>
   ⟨hG b hb,(J'.ok.exf b hb).1,J'.ok.exfs b hb,.inl hb,(J'.ok.exf b hb).2,fun p hp=>absurd (show p∈([]:List (Addr×Obj)) from hp) (by simp)⟩
  show wpAny _ _ ((compTurn _ 0 (.ref it) (.ref s2.heap.objs.size) (compEnvC scope cl (s2.heap.objs.size+1) X.env)).onRaise _) _ _ s';refine wpAny_noted (wpAny_noRaise ?_);rw[compTurn_list];refine wpAny_bind (wpAny_standAt (wpAny_bind ?_))
  rcases alt with⟨stop,qn⟩|⟨go,step⟩
  . refine thn (T.done (blk X scope cl (M++[x]) (s2.heap.objs.size+1) _ _ fp) rfl rfl rfl hc i [] s' _ H' _ J' (fpY fr') st' stop) fun r s4 ⟨hr,J4⟩=>?_
    subst hr;refine wpAny_pure ?_;obtain⟨m,hm,_⟩:=id J4.loc
    refine⟨m,hm,fun h' sb=>⟨.ref s2.heap.objs.size,H',u1 I3 hsz.symm f3 J4 sb,rfl,qn⟩⟩
  . refine thn (T.item (blk X scope cl (M++[x]) (s2.heap.objs.size+1) _ _ fp) rfl rfl rfl hc i [] s' _ H' _ J' (fpY fr') st' go) fun r s4 ⟨u,hr,h4⟩=>?_
    subst hr;refine wpAny_bind (thn h4 fun _ s5 ⟨z,H5,J5,r5,y5,st5,fr5⟩=>?_)
    have J5':=J5.pinned (fpY fr5) (T.obj _ _ st5)
    have hxN:(M++[x])[M.length]?=some x:=by simp
    refine wpAny_bind ?_;refine wpAny_assign_Name ?_;refine j7 (X:=blk X scope cl (M++[x]) (s2.heap.objs.size+1) _ _ fp) (i:=M.length) (v:=z) J5' S.nd hxN (.inl (lookup_relabel_local S.var)) r5 (fun s6 J6=>?_) (.inr (lookup_relabel_local S.var))
    have hlp:(pick ι σ).length=M.length:=by
     have q:=congrArg List.length S.names;rw[List.length_map,List.length_map]at q;unfold pick;rw[List.length_map,q]
    have hset:(pick ι σ++[v]).set M.length (some z)=pick ι σ++[some z]:=by
     rw[<- hlp,List.set_append_right _ _ (Nat.le_refl _),Nat.sub_self];rfl
    rw[hset]at J6;refine wpAny_bind (wpAny_tests_one (thn (hcd _ _ _ _ _ s6 _ H5 _ J6 (step z H5 y5)) fun b s7 ⟨H7,J7,hD7,q7⟩=>?_))
    cases b with
    | true=>
      rw[if_pos rfl]at q7;refine wpAny_bind (wpAny_bind (thn (he _ _ _ _ _ s7 _ H7 _ J7 q7) fun yv s8 ⟨y,H8,J8,r8,hD8,hz8,m',hm',w8⟩=>?_));refine wpAny_bind (thn (ck (X:=blk X scope cl (M++[x]) (s2.heap.objs.size+1) _ _ fp) _ s8 _ H8 (.ref s2.heap.objs.size) [y] (.ref s2.heap.objs.size) [yv] (fun _ G=>G=upd H8 s2.heap.objs.size (.lst (ys++[y]))) J8 rfl (.cons r8 .nil) ⟨_,_,y,rfl,rfl,hD8,hz8,rfl⟩) fun _ s9 ⟨_,H9,J9,_,e9⟩=>?_);subst e9;refine wpAny_pure (wpAny_pure ⟨rfl,m',hm',i+1,_,_,some z,J9.gF,?_,fun b hb=>?_,w8⟩)
      . exact T.keep _ _ _ st5 fun b hb o e=>(J9.pin (b,o) (List.mem_append_right _ (List.mem_append_right _ (cQ hb e)))).1
      . obtain⟨o,e,d⟩:=T.obj _ _ st5 b hb
        exact(J9.pin (b,o) (List.mem_append_right _ (List.mem_append_right _ (cQ hb e)))).2.1
    | false=>
      rw[if_neg (by decide)]at q7;obtain⟨m',hm',w8⟩:=q7;refine wpAny_pure ⟨rfl,m',hm',i+1,_,_,some z,J7.gF,?_,fun b hb=>?_,w8⟩
      . exact T.keep _ _ _ st5 fun b hb o e=>(J7.pin (b,o) (List.mem_append_right _ (List.mem_append_right _ (cQ hb e)))).1
      . obtain⟨o,e,d⟩:=T.obj _ _ st5 b hb
        exact(J7.pin (b,o) (List.mem_append_right _ (List.mem_append_right _ (cQ hb e)))).2.1
 rw[hsz]at *;exact codeAny_compStart_list loop (T.self X.A 0 _ _ _ st₁ loop)
end
theorem F3(its:List Value):slicePick its.toArray none none (some (-1))=its.reverse.toArray:=by
 unfold slicePick
 have hb:sliceBounds none none (some (-1)) its.toArray.size=((its.length:Int) - 1,-1,-1):=by simp[sliceBounds]
 rw[hb]
 congr 1
 have hr:sliceRange ((its.length:Int) - 1) (-1) (-1)=(List.range its.length).map fun i=>its.length - 1 - i:=by
  unfold sliceRange;rw[if_neg (by decide)]
  have hc:(if((its.length:Int) - 1) > -1 then(((its.length:Int) - 1) - -1 - -1 - 1)/(- -1)else 0).toNat=its.length:=by
   split
   . rw[show(- -1:Int)=1 by decide,Int.ediv_one];omega
   . omega
  dsimp only;rw[hc]
  refine List.map_congr_left fun k hk=>?_
  have:=List.mem_range.mp hk;omega
 rw[hr];apply List.ext_getElem?;intro n;rw[List.filterMap_map]
 have hall:∀ m,m<=its.length->List.filterMap ((fun x=>its.toArray[x]?) ∘ fun i=>its.length - 1 - i) (List.range m)=(its.reverse).take m:=by
  intro m
  induction m with
  |zero=>intro _;simp
  | succ m ih=>
    intro hm;rw[List.range_succ,List.filterMap_append,ih (by omega)]
    have h1:its.length - 1 - m<its.length:=by omega
    have h2:m<its.reverse.length:=by rw[List.length_reverse];omega
    rw[List.take_succ_eq_append_getElem h2]
    congr 1
    simp[h1]
 rw[hall its.length (Nat.le_refl _),List.take_of_length_le (by simp)]
theorem Ah:∀{xs:List V} {us:List Value},Vals xs us->Vals xs.reverse us.reverse
 |_,_,.nil=>.nil
 | _,_,.cons r t=>by
   rw[List.reverse_cons,List.reverse_cons]
   exact(Ah t).append (.cons r .nil)
section
variable{X:Cx}{e st:Expr}{te ts:TE}{pos p2:Pos}
def Lu(K:PySem.W.Frag)(te ts:TE):TE:=fun σ H Q=>te σ H fun x H1=>ts σ H1 fun k H2=>k=.int (-1) /\ ∃ a xs,x=.ref a /\ SqL K H2 a xs /\ ∀ p,H2 p=none->Q (.ref p) (upd H2 p (.lst xs.reverse))
theorem Jl(he:PE X e te)(hk:PE X st ts):PE X (.Subscript e (.Slice none none (some st) p2) pos) (Lu X.K te ts):=by
 intro pins s σ H Q I h;refine Subscript_ (thn (he pins s σ H _ I h) fun v s1 ⟨x,H1,I1,r1,q1⟩=>?_);refine wpAny_Slice ?_;rw[evalPart_none];refine wpAny_pure (wpAny_pure ?_);rw[evalPart_some]
 refine thn (hk pins s1 σ H1 _ I1 q1) fun u s3 ⟨k,H3,I3,r3,q3⟩=>?_
 obtain⟨rfl,a,xs,rfl,hq,q⟩:=q3;obtain⟨t,rfl⟩:=r3;cases r1
 have I4:Inv X pins σ H3 { s3 with heap:=s3.heap.push { cls:=.type "slice",data:=.fields #[.none,.none,.int (-1) t] } }:=I3.kept (t':=s3.toks) fun b ob q=>Heap.get?_push_of_some _ q
 obtain⟨its,r,ht,hz⟩:=I4.list hq;have hlen:=r.length;show wpAny (model X.prog X.w) X.A (subscriptTail e (.Slice none none (some st) p2) (.ref a) (.ref s3.heap.objs.size)) (EP X pins σ Q) X.xe { s3 with heap:=s3.heap.push { cls:=.type "slice",data:=.fields #[.none,.none,.int (-1) t] } };refine tail_any (ops:=[.ref a,.ref s3.heap.objs.size]) ht.isList.typeIs slot_list_getitem.lookup ?_ (by with_unfolding_all rfl);refine wpAny_getItem_list_slice ht.isList (Heap.IsSliceOf.new ..) .none .none (.int (-1) t) (by decide) ?_ (by rw[List.size_toArray]<;>omega);rw[F3]
 refine⟨.ref _,_,I4.laid (t':=s3.toks) (o:=.lst xs.reverse) (fun b ob q=>Heap.get?_push_of_some _ q) (Nat.le_refl _) ?_,rfl,q _ (I4.hok.fresh (Nat.le_refl _))⟩
 refine⟨by rw[List.length_reverse];exact hz,its.reverse,0,Ah r,Heap.get?_push_size _ rfl⟩
end
section
variable{X:Cx}{scope:Scope}{cl:List (Str×Addr)}{M:List Str}{ι:List Nat}{x:Str}
theorem GK{i:Nat}{y:Str}{py spos:Pos}{elt iter:Expr}{px pos:Pos}{wi:TI}{te:TE}(S:lu X scope cl M ι x)(hc:X.calm=true)(hi:PI X (.Name x px) iter wi)(he:∀ C s₀ H₀ ex,PE (blk X scope cl (M++[x]) C s₀ H₀ ex) elt te)
  (hN:X.N.Nodup) (hiy:X.N[i]?=some y) (hy:Loc X.env.scope y) (hsw:swapsWith (.ListComp elt [⟨.Name x px,iter,[],0⟩] scope pos) (some (.Name y py)) spos.line X.env=pure true) (hf:X.fn y=true \/ X.env.scope.names.lookup y=some .local:=by first|exact .inl rfl|exact .inr rfl|assumption)
  (hs:∀ v,foldedSetIterable iter X.env v=pure v:=by intro _;rfl):PS X (.Assign [.Name y py] (.ListComp elt [⟨.Name x px,iter,[],0⟩] scope pos) spos) (tW (uf wi ι te) (kh i)):=by
 intro pins s σ H D0 I h;rw[exec_Assign_Name_used _ _ _ _ hsw];refine wpAny_bind (wpAny_standAt (wpAny_bind ?_));show wpAny _ _ (do let _ <- comprehension (.ListComp elt [⟨.Name x px,iter,[],0⟩] scope pos) scope X.env _ (newList []) false (eval iter X.env) (some (assign (.Name y py) X.env))) _ _ s;refine wpAny_bind (wpAny_mono (wpAny_comprehension_free (use:=some (assign (.Name y py) X.env)) (Q:=fun _ s'=>∃ σ' H',Inv X pins σ' H' s' /\ D0.nx σ' H') rfl hs S.clos S.kind (fun y hy hl=>?_) (wpAny_mono (hi pins s σ H _ I h) (fun v s1 h1=>wpAny_mono h1 (fun itv s2 h2=>?_) fun _ _ z=>z) fun _ _ z=>z)) (fun _ s' hq=>wpAny_pure (wpAny_pure hq)) fun _ _ e=>e)
 . have q:=List.all_eq_true.mp S.locs y hy;rw[hl]at q
   simpa using q
 obtain⟨it,fp,tn,J,H2,rfl,I2,T,st2,f2,hW⟩:=h2;have I3:=I2.Ei (ys:=[]) (its:=[]) (t':=s2.toks) .nil (Nat.zero_le _);obtain⟨W,⟨m0,w0⟩,turn⟩:=hW s2.heap.objs.size I2.fresh
 have fpo:∀ b∈fp,b<s2.heap.objs.size:=fun b hb=>let ⟨_,e,_⟩:=T.obj _ _ st2 b hb;Heap.lt_size e
 have f3:∀ b∈fp,ni X pins (upd H2 s2.heap.objs.size (.lst [])) b:=fun b hb=>by
  obtain⟨q0,q⟩:=f2 b hb
  exact⟨by rw[bL (Nat.ne_of_lt (fpo b hb))];exact q0,q⟩
 show wpAny _ _ (newObj (.type "list") _ none) _ _ s2;refine wpAny_newObj_type (wpAny_newFunctionEnv (fun y hy=>?_) (by intro y hy;simp at hy) (fun h₁ hn₁ sb₁=>?_) S.kind)
 . have q:=List.all_eq_true.mp S.nocell y hy
   simpa using q
 have hsz:(s2.heap.push { cls:=.type "list",dict:=none,data:=.seq ([]:List Value).toArray }).objs.size=s2.heap.objs.size+1:=Heap.size_push ..
 have hk₁:∀ b o,(s2.heap.push { cls:=.type "list",dict:=none,data:=.seq ([]:List Value).toArray }).get? b=some o->h₁.get? b=some o:=fun b o e=>
  (sb₁.2 b (Nat.ne_of_lt (Heap.lt_size e))).trans (Heap.get?_push_of_some _ e)
 have J0:=yw (t':=s2.toks+([]:List (Str×Value)).length) S I3 (ex:=fp) (fun b hb=>⟨f3 b hb,Nat.lt_of_lt_of_le (fpo b hb) (by rw[hsz];exact Nat.le_succ _)⟩) hn₁ hk₁
 have old:∀ b∈fp,∀ o,s2.heap.get? b=some o->h₁.get? b=some o:=fun b _ o e=>hk₁ b o (Heap.get?_push_of_some _ e)
 have st₁:tn 0 h₁:=T.keep _ _ _ st2 old
 have loop:codeAny (model X.prog X.w) X.A (.compLoop (.ListComp elt [⟨.Name x px,iter,[],0⟩] scope pos) 0 (.ref it) (.ref s2.heap.objs.size) (compEnvC scope cl (s2.heap.objs.size+1) X.env))
   (compPost (model X.prog X.w) X.A X.xe (some (assign (.Name y py) X.env)) (fun _ s'=>∃ σ' H',Inv X pins σ' H' s' /\ D0.nx σ' H') (.ref s2.heap.objs.size) (s2.heap.objs.size+1)) { s2 with heap:=h₁,toks:=s2.toks+([]:List (Str×Value)).length }:=by
  rw[hsz]at J0
  refine codeAny_loop rfl (fun n s'=>∃ i H' ys v,Inv (blk X scope cl (M++[x]) (s2.heap.objs.size+1) { s2 with heap:=s2.heap.push { cls:=.type "list",data:=.seq ([]:List Value).toArray },toks:=s2.toks } (upd H2 s2.heap.objs.size (.lst [])) fp) [] (pick ι σ++[v]) H' s' /\ tn i s'.heap /\ (∀ b∈fp,H' b=none) /\ W i n ys H')
   (fun n s' hI=>?_) m0 ⟨0,_,[],none,J0,st₁,fun b hb=>(f3 b hb).1,w0⟩
  obtain⟨i,H',ys,v,J',st',fr',w'⟩:=hI;obtain⟨hD,alt⟩:=turn i n ys H' w'
  have fpY:∀{G:Hp},(∀ b∈fp,G b=none)->∀ b∈fp,ni (blk X scope cl (M++[x]) (s2.heap.objs.size+1) { s2 with heap:=s2.heap.push { cls:=.type "list",data:=.seq ([]:List Value).toArray },toks:=s2.toks } (upd H2 s2.heap.objs.size (.lst [])) fp) [] G b:=fun hG b hb=>
   ⟨hG b hb,(J'.ok.exf b hb).1,J'.ok.exfs b hb,.inl hb,(J'.ok.exf b hb).2,fun p hp=>absurd (show p∈([]:List (Addr×Obj)) from hp) (by simp)⟩
  show wpAny _ _ ((compTurn _ 0 (.ref it) (.ref s2.heap.objs.size) (compEnvC scope cl (s2.heap.objs.size+1) X.env)).onRaise _) _ _ s';refine wpAny_noted (wpAny_noRaise ?_);rw[xg];refine wpAny_bind (wpAny_standAt (wpAny_bind ?_))
  rcases alt with⟨stop,qn⟩|⟨go,step⟩
  . refine thn (T.done (blk X scope cl (M++[x]) (s2.heap.objs.size+1) _ _ fp) rfl rfl rfl hc i [] s' _ H' _ J' (fpY fr') st' stop) fun r s4 ⟨hr,J4⟩=>?_
    subst hr;refine wpAny_pure ?_;obtain⟨m,hm,_⟩:=id J4.loc
    have I4:Inv X pins σ H' s4:=u1 (h':=s4.heap) I3 hsz.symm f3 J4 ⟨rfl,fun _ _=>rfl⟩
    obtain⟨oC,es,ep,hoC,rC⟩:=id hm
    have fC:ni X pins H' (s2.heap.objs.size+1):=I3.BB (by rw[hsz];exact Nat.le_refl _) J4.free
    obtain⟨_,c1,c2,c3,c4,c5⟩:=id fC
    have I5:=I4.pinned (fp:=[s2.heap.objs.size+1]) (fun b hb=>by
     have z:b=s2.heap.objs.size+1:=by simpa using hb
     subst z;exact fC) fun b hb=>by
     have z:b=s2.heap.objs.size+1:=by simpa using hb
     subst z
     exact⟨oC,hoC,fun v z=>by rw[rC.1]at z;cases z⟩
    show wpAny _ _ (assign (.Name y py) X.env (.ref s2.heap.objs.size)) _ _ s4;refine wpAny_assign_Name (j7 I5 hN hiy hy (v:=.ref s2.heap.objs.size) rfl (fun s5 I6=>?_) hf)
    have hC5:s5.heap.get? (s2.heap.objs.size+1)=some oC:=(I6.pin (_,oC) (List.mem_append_right _ (List.mem_append_right _ (cQ (List.mem_singleton.mpr rfl) hoC)))).1
    refine⟨m,⟨oC,es,ep,hC5,rC⟩,fun h' sb=>⟨_,H',(I6.gF).turned (t':=s5.toks) (it:=s2.heap.objs.size+1) (fun b o hb e=>(sb.2 b hb).trans e) J4.free c1 c3 c4 c5,qn⟩⟩
  . refine thn (T.item (blk X scope cl (M++[x]) (s2.heap.objs.size+1) _ _ fp) rfl rfl rfl hc i [] s' _ H' _ J' (fpY fr') st' go) fun r s4 ⟨u,hr,h4⟩=>?_
    subst hr;refine wpAny_bind (thn h4 fun _ s5 ⟨z,H5,J5,r5,y5,st5,fr5⟩=>?_)
    have J5':=J5.pinned (fpY fr5) (T.obj _ _ st5)
    have hxN:(M++[x])[M.length]?=some x:=by simp
    refine wpAny_bind ?_;refine wpAny_assign_Name ?_;refine j7 (X:=blk X scope cl (M++[x]) (s2.heap.objs.size+1) _ _ fp) (i:=M.length) (v:=z) J5' S.nd hxN (.inl (lookup_relabel_local S.var)) r5 (fun s6 J6=>?_) (.inr (lookup_relabel_local S.var))
    have hlp:(pick ι σ).length=M.length:=by
     have q:=congrArg List.length S.names;rw[List.length_map,List.length_map]at q;unfold pick;rw[List.length_map,q]
    have hset:(pick ι σ++[v]).set M.length (some z)=pick ι σ++[some z]:=by
     rw[<- hlp,List.set_append_right _ _ (Nat.le_refl _),Nat.sub_self];rfl
    rw[hset]at J6;refine wpAny_bind (wpAny_bind (thn (he _ _ _ _ _ s6 _ H5 _ J6 (step z H5 y5)) fun yv s7 ⟨y,H7,J7,r7,hD7,hz7,m',hm',w7⟩=>?_));refine wpAny_bind (thn (ck (X:=blk X scope cl (M++[x]) (s2.heap.objs.size+1) _ _ fp) _ s7 _ H7 (.ref s2.heap.objs.size) [y] (.ref s2.heap.objs.size) [yv] (fun _ G=>G=upd H7 s2.heap.objs.size (.lst (ys++[y]))) J7 rfl (.cons r7 .nil) ⟨_,_,y,rfl,rfl,hD7,hz7,rfl⟩) fun _ s8 ⟨_,H8,J8,_,e8⟩=>?_);subst e8;refine wpAny_pure (wpAny_pure ⟨rfl,m',hm',i+1,_,_,some z,J8.gF,?_,fun b hb=>?_,w7⟩)
    . exact T.keep _ _ _ st5 fun b hb o e=>(J8.pin (b,o) (List.mem_append_right _ (List.mem_append_right _ (cQ hb e)))).1
    . obtain⟨o,e,d⟩:=T.obj _ _ st5 b hb
      exact(J8.pin (b,o) (List.mem_append_right _ (List.mem_append_right _ (cQ hb e)))).2.1
 rw[hsz]at *;exact codeAny_compStart_list loop (T.self X.A 0 _ _ _ st₁ loop)
theorem Dy{i:Nat}{y:Str}{py spos:Pos}{elt iter c:Expr}{px pos:Pos}{wi:TI}{tc:TT}{te:TE}(S:lu X scope cl M ι x)(hc:X.calm=true)(hi:PI X (.Name x px) iter wi)(hcd:∀ C s₀ H₀ ex,PT (blk X scope cl (M++[x]) C s₀ H₀ ex) c tc)(he:∀ C s₀ H₀ ex,PE (blk X scope cl (M++[x]) C s₀ H₀ ex) elt te)
  (hN:X.N.Nodup) (hiy:X.N[i]?=some y) (hy:Loc X.env.scope y) (hsw:swapsWith (.ListComp elt [⟨.Name x px,iter,[c],0⟩] scope pos) (some (.Name y py)) spos.line X.env=pure true) (hf:X.fn y=true \/ X.env.scope.names.lookup y=some .local:=by first|exact .inl rfl|exact .inr rfl|assumption)
  (hs:∀ v,foldedSetIterable iter X.env v=pure v:=by intro _;rfl):PS X (.Assign [.Name y py] (.ListComp elt [⟨.Name x px,iter,[c],0⟩] scope pos) spos) (tW (r6 wi ι tc te) (kh i)):=by
 intro pins s σ H D0 I h;rw[exec_Assign_Name_used _ _ _ _ hsw];refine wpAny_bind (wpAny_standAt (wpAny_bind ?_));show wpAny _ _ (do let _ <- comprehension (.ListComp elt [⟨.Name x px,iter,[c],0⟩] scope pos) scope X.env _ (newList []) false (eval iter X.env) (some (assign (.Name y py) X.env))) _ _ s;refine wpAny_bind (wpAny_mono (wpAny_comprehension_free (use:=some (assign (.Name y py) X.env)) (Q:=fun _ s'=>∃ σ' H',Inv X pins σ' H' s' /\ D0.nx σ' H') rfl hs S.clos S.kind (fun y hy hl=>?_) (wpAny_mono (hi pins s σ H _ I h) (fun v s1 h1=>wpAny_mono h1 (fun itv s2 h2=>?_) fun _ _ z=>z) fun _ _ z=>z)) (fun _ s' hq=>wpAny_pure (wpAny_pure hq)) fun _ _ e=>e)
 . have q:=List.all_eq_true.mp S.locs y hy;rw[hl]at q
   simpa using q
 obtain⟨it,fp,tn,J,H2,rfl,I2,T,st2,f2,hW⟩:=h2;have I3:=I2.Ei (ys:=[]) (its:=[]) (t':=s2.toks) .nil (Nat.zero_le _);obtain⟨W,⟨m0,w0⟩,turn⟩:=hW s2.heap.objs.size I2.fresh
 have fpo:∀ b∈fp,b<s2.heap.objs.size:=fun b hb=>let ⟨_,e,_⟩:=T.obj _ _ st2 b hb;Heap.lt_size e
 have f3:∀ b∈fp,ni X pins (upd H2 s2.heap.objs.size (.lst [])) b:=fun b hb=>by
  obtain⟨q0,q⟩:=f2 b hb
  exact⟨by rw[bL (Nat.ne_of_lt (fpo b hb))];exact q0,q⟩
 show wpAny _ _ (newObj (.type "list") _ none) _ _ s2;refine wpAny_newObj_type (wpAny_newFunctionEnv (fun y hy=>?_) (by intro y hy;simp at hy) (fun h₁ hn₁ sb₁=>?_) S.kind)
 . have q:=List.all_eq_true.mp S.nocell y hy
   simpa using q
 have hsz:(s2.heap.push { cls:=.type "list",dict:=none,data:=.seq ([]:List Value).toArray }).objs.size=s2.heap.objs.size+1:=Heap.size_push ..
 have hk₁:∀ b o,(s2.heap.push { cls:=.type "list",dict:=none,data:=.seq ([]:List Value).toArray }).get? b=some o->h₁.get? b=some o:=fun b o e=>
  (sb₁.2 b (Nat.ne_of_lt (Heap.lt_size e))).trans (Heap.get?_push_of_some _ e)
 have J0:=yw (t':=s2.toks+([]:List (Str×Value)).length) S I3 (ex:=fp) (fun b hb=>⟨f3 b hb,Nat.lt_of_lt_of_le (fpo b hb) (by rw[hsz];exact Nat.le_succ _)⟩) hn₁ hk₁
 have old:∀ b∈fp,∀ o,s2.heap.get? b=some o->h₁.get? b=some o:=fun b _ o e=>hk₁ b o (Heap.get?_push_of_some _ e)
 have st₁:tn 0 h₁:=T.keep _ _ _ st2 old
 have loop:codeAny (model X.prog X.w) X.A (.compLoop (.ListComp elt [⟨.Name x px,iter,[c],0⟩] scope pos) 0 (.ref it) (.ref s2.heap.objs.size) (compEnvC scope cl (s2.heap.objs.size+1) X.env))
   (compPost (model X.prog X.w) X.A X.xe (some (assign (.Name y py) X.env)) (fun _ s'=>∃ σ' H',Inv X pins σ' H' s' /\ D0.nx σ' H') (.ref s2.heap.objs.size) (s2.heap.objs.size+1)) { s2 with heap:=h₁,toks:=s2.toks+([]:List (Str×Value)).length }:=by
  rw[hsz]at J0
  refine codeAny_loop rfl (fun n s'=>∃ i H' ys v,Inv (blk X scope cl (M++[x]) (s2.heap.objs.size+1) { s2 with heap:=s2.heap.push { cls:=.type "list",data:=.seq ([]:List Value).toArray },toks:=s2.toks } (upd H2 s2.heap.objs.size (.lst [])) fp) [] (pick ι σ++[v]) H' s' /\ tn i s'.heap /\ (∀ b∈fp,H' b=none) /\ W i n ys H')
   (fun n s' hI=>?_) m0 ⟨0,_,[],none,J0,st₁,fun b hb=>(f3 b hb).1,w0⟩
  obtain⟨i,H',ys,v,J',st',fr',w'⟩:=hI;obtain⟨hD,alt⟩:=turn i n ys H' w'
  have fpY:∀{G:Hp},(∀ b∈fp,G b=none)->∀ b∈fp,ni (blk X scope cl (M++[x]) (s2.heap.objs.size+1) { s2 with heap:=s2.heap.push { cls:=.type "list",data:=.seq ([]:List Value).toArray },toks:=s2.toks } (upd H2 s2.heap.objs.size (.lst [])) fp) [] G b:=fun hG b hb=>
   ⟨hG b hb,(J'.ok.exf b hb).1,J'.ok.exfs b hb,.inl hb,(J'.ok.exf b hb).2,fun p hp=>absurd (show p∈([]:List (Addr×Obj)) from hp) (by simp)⟩
  show wpAny _ _ ((compTurn _ 0 (.ref it) (.ref s2.heap.objs.size) (compEnvC scope cl (s2.heap.objs.size+1) X.env)).onRaise _) _ _ s';refine wpAny_noted (wpAny_noRaise ?_);rw[compTurn_list];refine wpAny_bind (wpAny_standAt (wpAny_bind ?_))
  rcases alt with⟨stop,qn⟩|⟨go,step⟩
  . refine thn (T.done (blk X scope cl (M++[x]) (s2.heap.objs.size+1) _ _ fp) rfl rfl rfl hc i [] s' _ H' _ J' (fpY fr') st' stop) fun r s4 ⟨hr,J4⟩=>?_
    subst hr;refine wpAny_pure ?_;obtain⟨m,hm,_⟩:=id J4.loc
    have I4:Inv X pins σ H' s4:=u1 (h':=s4.heap) I3 hsz.symm f3 J4 ⟨rfl,fun _ _=>rfl⟩
    obtain⟨oC,es,ep,hoC,rC⟩:=id hm
    have fC:ni X pins H' (s2.heap.objs.size+1):=I3.BB (by rw[hsz];exact Nat.le_refl _) J4.free
    obtain⟨_,c1,c2,c3,c4,c5⟩:=id fC
    have I5:=I4.pinned (fp:=[s2.heap.objs.size+1]) (fun b hb=>by
     have z:b=s2.heap.objs.size+1:=by simpa using hb
     subst z;exact fC) fun b hb=>by
     have z:b=s2.heap.objs.size+1:=by simpa using hb
     subst z
     exact⟨oC,hoC,fun v z=>by rw[rC.1]at z;cases z⟩
    show wpAny _ _ (assign (.Name y py) X.env (.ref s2.heap.objs.size)) _ _ s4;refine wpAny_assign_Name (j7 I5 hN hiy hy (v:=.ref s2.heap.objs.size) rfl (fun s5 I6=>?_) hf)
    have hC5:s5.heap.get? (s2.heap.objs.size+1)=some oC:=(I6.pin (_,oC) (List.mem_append_right _ (List.mem_append_right _ (cQ (List.mem_singleton.mpr rfl) hoC)))).1
    refine⟨m,⟨oC,es,ep,hC5,rC⟩,fun h' sb=>⟨_,H',(I6.gF).turned (t':=s5.toks) (it:=s2.heap.objs.size+1) (fun b o hb e=>(sb.2 b hb).trans e) J4.free c1 c3 c4 c5,qn⟩⟩
  . refine thn (T.item (blk X scope cl (M++[x]) (s2.heap.objs.size+1) _ _ fp) rfl rfl rfl hc i [] s' _ H' _ J' (fpY fr') st' go) fun r s4 ⟨u,hr,h4⟩=>?_
    subst hr;refine wpAny_bind (thn h4 fun _ s5 ⟨z,H5,J5,r5,y5,st5,fr5⟩=>?_)
    have J5':=J5.pinned (fpY fr5) (T.obj _ _ st5)
    have hxN:(M++[x])[M.length]?=some x:=by simp
    refine wpAny_bind ?_;refine wpAny_assign_Name ?_;refine j7 (X:=blk X scope cl (M++[x]) (s2.heap.objs.size+1) _ _ fp) (i:=M.length) (v:=z) J5' S.nd hxN (.inl (lookup_relabel_local S.var)) r5 (fun s6 J6=>?_) (.inr (lookup_relabel_local S.var))
    have hlp:(pick ι σ).length=M.length:=by
     have q:=congrArg List.length S.names;rw[List.length_map,List.length_map]at q;unfold pick;rw[List.length_map,q]
    have hset:(pick ι σ++[v]).set M.length (some z)=pick ι σ++[some z]:=by
     rw[<- hlp,List.set_append_right _ _ (Nat.le_refl _),Nat.sub_self];rfl
    rw[hset]at J6;refine wpAny_bind (wpAny_tests_one (thn (hcd _ _ _ _ _ s6 _ H5 _ J6 (step z H5 y5)) fun b s7 ⟨H7,J7,hD7,q7⟩=>?_))
    cases b with
    | true=>
      rw[if_pos rfl]at q7;refine wpAny_bind (wpAny_bind (thn (he _ _ _ _ _ s7 _ H7 _ J7 q7) fun yv s8 ⟨y,H8,J8,r8,hD8,hz8,m',hm',w8⟩=>?_));refine wpAny_bind (thn (ck (X:=blk X scope cl (M++[x]) (s2.heap.objs.size+1) _ _ fp) _ s8 _ H8 (.ref s2.heap.objs.size) [y] (.ref s2.heap.objs.size) [yv] (fun _ G=>G=upd H8 s2.heap.objs.size (.lst (ys++[y]))) J8 rfl (.cons r8 .nil) ⟨_,_,y,rfl,rfl,hD8,hz8,rfl⟩) fun _ s9 ⟨_,H9,J9,_,e9⟩=>?_);subst e9;refine wpAny_pure (wpAny_pure ⟨rfl,m',hm',i+1,_,_,some z,J9.gF,?_,fun b hb=>?_,w8⟩)
      . exact T.keep _ _ _ st5 fun b hb o e=>(J9.pin (b,o) (List.mem_append_right _ (List.mem_append_right _ (cQ hb e)))).1
      . obtain⟨o,e,d⟩:=T.obj _ _ st5 b hb
        exact(J9.pin (b,o) (List.mem_append_right _ (List.mem_append_right _ (cQ hb e)))).2.1
    | false=>
      rw[if_neg (by decide)]at q7;obtain⟨m',hm',w8⟩:=q7;refine wpAny_pure ⟨rfl,m',hm',i+1,_,_,some z,J7.gF,?_,fun b hb=>?_,w8⟩
      . exact T.keep _ _ _ st5 fun b hb o e=>(J7.pin (b,o) (List.mem_append_right _ (List.mem_append_right _ (cQ hb e)))).1
      . obtain⟨o,e,d⟩:=T.obj _ _ st5 b hb
        exact(J7.pin (b,o) (List.mem_append_right _ (List.mem_append_right _ (cQ hb e)))).2.1
 rw[hsz]at *;exact codeAny_compStart_list loop (T.self X.A 0 _ _ _ st₁ loop)
end
end L2.E
namespace L2.P
open PySem PySem.Spec PyProof.Rows L2 L2.E
section
variable{K:PySem.W.Frag}{cls:String->Option Addr}{W:XW}{Av G S₀ S S' H H' B B':Hp}{ρ:ag}{σ:St}{Q:VK}
theorem EM{ml me:ag->OE}{ι:List Nat}(hι:ι.Nodup)(hl:JE K cls W tl ml)(he:JE K cls (fun _ _ _ _=>False) te me):JE K cls W (uf (JY K tl) ι te) (wj ml ι me):=by
 intro Av G S₀ ρ σ S H Q I p
 refine hl.go I p fun r v S1 H1 I1 w1 r1 p1=>?_
 have ra:=r1.rd I1.sh
 cases e:r.pv with
 | tup xs=>
   rw[e]at p1 ra;obtain⟨a,vs,rfl,hq,hr⟩:=nT ra
   refine⟨a,rfl,⟨vs,aK.tup I1.sh hq⟩,?_⟩
   dsimp only at p1
   cases em:dg me (cX ι ρ) xs with
   |exc c fs=>rw[em]at p1;exact p1.elim
   |bad=>rw[em]at p1;exact p1.elim
   | ok ys=>
     rw[em]at p1;simp only[noX]at p1;split at p1
     . rename_i hlen
       refine p7 hι he I1 em hlen (fun k H' x g hx=>?_) (fun H' g=>⟨vs,aK.tup (I1.sh.trans g) hq,by rw[hr.length];exact Nat.le_refl _⟩) fun D S' H' w nD sD ⟨us,hD,rr⟩=>p1 (.ref D) S' H' w ⟨D,us,rfl,nD,sD,hD,rr⟩
       obtain⟨u,hu,ru⟩:=hr.get hx
       refine⟨⟨vs,u,aK.tup (I1.sh.trans g) hq,hu⟩,?_⟩
       rintro v' H2 ⟨rfl,hv⟩
       have:=hv vs (aK.tup (I1.sh.trans g) hq);rw[hu]at this;cases this
       exact⟨rfl,ru⟩
     . exact p1.elim
 |_=>rw[e]at p1;exact p1.elim
theorem za{J:It}{ι:List Nat}{mc:ag->OT}{me:ag->OE}{xs ys:List PV}(hι:ι.Nodup)(hc:JT K cls (fun _ _ _ _=>False) tc mc)(he:JE K cls (fun _ _ _ _=>False) te me)(I:SR K cls Av G S₀ ρ σ S H)(hy:gf mc me (cX ι ρ) xs=.ok ys)(hl:ys.length<=lim)
  (go:∀ k H' x,aK H H'->xs[k]?=some x->J.go k H' /\ ∀ v H2,J.yld k H' v H2->H2=H' /\ Rep K S x v) (stop:∀ H',aK H H'->J.stop xs.length H')
  (hQ:∀ D S' H',bq S H S' H'->H D=none->S' D=none->(∃ us,H' D=some (.lst us) /\ bu K S' ys us)->Q (.ref D) H'):
  ∀ D,H D=none->∃ W:Nat->Nat->List V->Hp->Prop,(∃ m,W 0 m [] (upd H D (.lst []))) /\ ∀ i m us H',W i m us H' ->
    H' D=some (.lst us) /\ ((J.stop i H' /\ Q (.ref D) H') \/ (J.go i H' /\ ∀ x H2,J.yld i H' x H2->tc (L2.E.pick ι σ++[some x]) H2 fun b H4=>H4 D=some (.lst us) /\ if b=true then te (L2.E.pick ι σ++[some x]) H4 fun y H3=>H3 D=some (.lst us) /\ us.length<sizeLine /\ ∃ m',m'<m /\ W (i+1) m' (us++[y]) (upd H3 D (.lst (us++[y])))else ∃ m',m'<m /\ W (i+1) m' us H4)):=by
 intro D nD
 refine⟨fun k m us H'=>m+k=xs.length /\ H' D=some (.lst us) /\ ∃ S' zs ws,aK S S' /\ aK H H' /\ aK S' H' /\ (∀ b,S' b≠none->S b≠none \/ (H b=none /\ b≠D)) /\ bu K S' zs us /\ gf mc me (cX ι ρ) (xs.drop k)=.ok ws /\ ys=zs++ws,
  ⟨xs.length,rfl,bQ,S,[],ys,aK.refl _,aK.new nD,I.sh.trans (aK.new nD),fun b z=>.inl z,.nil,hy,rfl⟩,?_⟩
 rintro k m us H' ⟨hm,hD,S',zs,ws,s1,g1,sh1,n1,r1,e1,rfl⟩
 refine⟨hD,?_⟩
 have hSD:S' D=none:=by
  cases q:S' D with
  |none=>rfl
  | some o=>
    rcases n1 D (by rw[q];simp)with z|⟨_,z⟩
    . exact absurd (I.sh.free nD) z
    . exact absurd rfl z
 by_cases hk:k<xs.length
 . refine .inr ?_
   have hx:xs[k]?=some xs[k]:=by simp[hk]
   obtain⟨hgo,hyld⟩:=go k H' xs[k] g1 hx
   refine⟨hgo,fun v H2 hv=>?_⟩
   obtain⟨rfl,rv⟩:=hyld v H2 hv;rw[List.drop_eq_getElem_cons hk]at e1
   have I1:SR K cls Av G S₀ ρ σ S' H2:=I.grow ⟨s1,g1,sh1,fun b z=>by
    rcases n1 b z with z|⟨z,_⟩
    . exact .inl z
    . exact .inr z⟩
   have Ip:=I1.pick hι (Rep.mono s1 rv);refine hc _ G S₀ _ _ S' H2 _ Ip ?_;unfold gf at e1;split at e1
   . rename_i ec;rw[ec];intro S2 H3 w2
     have hSD2:S2 D=none:=by
      cases q:S2 D with
      |none=>rfl
      | some o=>
        rcases w2.new D (by rw[q];simp)with z|z
        . exact absurd hSD z
        . rw[hD]at z;cases z
     refine⟨w2.g _ _ hD,?_⟩
     rw[if_pos rfl];refine he _ G S₀ _ _ S2 H3 _ (Ip.grow w2) ?_
     cases em:me (cX ι ρ++[some (.sh xs[k])])with
     |exc c fs=>rw[em]at e1;cases e1
     |bad=>rw[em]at e1;cases e1
     | ok r=>
       rw[em]at e1;simp only[OE.fI]at e1
       cases es:m4 r with
       |none=>rw[es]at e1;cases e1
       | some y=>
         rw[es]at e1
         dsimp only at e1
         cases e2:gf mc me (cX ι ρ) (xs.drop (k+1))with
         |exc c fs=>rw[e2]at e1;cases e1
         |bad=>rw[e2]at e1;cases e1
         | ok zs'=>
           rw[e2]at e1;simp only[OA.fI]at e1;cases e1;intro u S4 H4 w4 r4;obtain⟨S3,w3,s3,ru⟩:=r4.share w4 es
           have hl2:(zs++y ::zs').length<=lim:=hl
           have w5:=w2.trans w3
           have hSD3:S3 D=none:=by
            cases q:S3 D with
            |none=>rfl
            | some o=>
              rcases w3.new D (by rw[q];simp)with z|z
              . exact absurd hSD2 z
              . rw[w2.g _ _ hD]at z;cases z
           refine⟨w5.g _ _ hD,?_,m - 1,by omega,by omega,bQ,S3,zs++[y],zs',s1.trans w5.s,(g1.trans w5.g).upd nD,w3.sh.upd hSD3,fun b z=>?_,(r1.mono w5.s).append (.cons ru .nil),e2,by simp⟩
           . rw[r1.length,<- EF];rw[List.length_append,List.length_cons]at hl2;omega
           . rcases w5.new b z with z|z
             . exact n1 b z
             . refine .inr ⟨g1.free z,fun e=>?_⟩;rw[e,hD]at z;cases z
   . rename_i ec;rw[ec];intro S2 H3 w2
     refine⟨w2.g _ _ hD,?_⟩
     rw[if_neg (by decide)]
     refine⟨m - 1,by omega,by omega,w2.g _ _ hD,S2,zs,ws,s1.trans w2.s,g1.trans w2.g,w2.sh,fun b z=>?_,r1.mono w2.s,e1,rfl⟩
     rcases w2.new b z with z|z
     . exact n1 b z
     . refine .inr ⟨g1.free z,fun e=>?_⟩;rw[e,hD]at z;cases z
   . cases e1
 . have hk':k=xs.length:=by omega
   subst hk';refine .inl ⟨stop H' g1,?_⟩;rw[List.drop_length]at e1;cases e1
   exact hQ D S' H' ⟨s1,g1,sh1,fun b z=>by
    rcases n1 b z with z|⟨z,_⟩
    . exact .inl z
    . exact .inr z⟩ nD hSD ⟨us,hD,by rw[List.append_nil];exact r1⟩
theorem qV{ml me:ag->OE}{mc:ag->OT}{ι:List Nat}(hι:ι.Nodup)(hl:JE K cls W tl ml)(hc:JT K cls (fun _ _ _ _=>False) tc mc)(he:JE K cls (fun _ _ _ _=>False) te me):JE K cls W (r6 (zu K tl) ι tc te) (j9 ml ι mc me):=by
 intro Av G S₀ ρ σ S H Q I p
 refine hl.go I p fun r v S1 H1 I1 w1 r1 p1=>?_
 have ra:=r1.rd I1.sh
 cases e:r.pv with
 | lst xs=>
   rw[e]at p1 ra;obtain⟨a,vs,rfl,hq,hr⟩:=gD ra
   refine⟨a,rfl,⟨vs,hq⟩,?_⟩
   dsimp only at p1
   cases em:gf mc me (cX ι ρ) xs with
   |exc c fs=>rw[em]at p1;exact p1.elim
   |bad=>rw[em]at p1;exact p1.elim
   | ok ys=>
     rw[em]at p1;simp only[noX]at p1;split at p1
     . rename_i hlen
       refine za hι hc he I1 em hlen (fun k H' x g hx=>?_) (fun H' g=>⟨vs,aK.seq g hq,by rw[hr.length];exact Nat.le_refl _⟩) fun D S' H' w nD sD ⟨us,hD,rr⟩=>p1 (.ref D) S' H' w ⟨D,us,rfl,nD,sD,hD,rr⟩
       obtain⟨u,hu,ru⟩:=hr.get hx
       refine⟨⟨vs,u,aK.seq g hq,hu⟩,?_⟩
       rintro v' H2 ⟨rfl,hv⟩
       have:=hv vs (aK.seq g hq);rw[hu]at this;cases this
       exact⟨rfl,ru⟩
     . exact p1.elim
 |_=>rw[e]at p1;exact p1.elim
theorem FA{ma ms:ag->OE}(ha:JE K cls W ta ma)(hs:JE K cls W ts ms):JE K cls W (Lu K ta ts) (DI ma ms):=by
 intro Av G S₀ ρ σ S H Q I p
 refine ha.go I p fun a v S1 H1 I1 w1 r1 p1=>hs.go I1 p1 fun k u S2 H2 I2 w2 r2 p2=>?_
 have ra:=(r1.rd I1.sh).mono w2.s w2.g;have rk:=r2.rd I2.sh;split at p2
 . rename_i xs n ea ek;split at p2
   . rename_i hn;rw[ea]at ra;rw[ek]at rk;obtain⟨q,vs,rfl,hq,hr⟩:=gD ra
     refine⟨by rw[dD rk,hn],q,vs,rfl,hq,fun l hl=>?_⟩
     refine p2 _ S2 _ (bq.heap I2.sh hl) ⟨l,_,rfl,hl,I2.sh.free hl,bQ,?_⟩;clear ea p2 hq ra
     induction xs generalizing vs with
     |nil=>rw[hr.nil_inv];exact .nil
     | cons x xs ih=>
       obtain⟨y,t,rfl,h1,h2⟩:=hr.cons_inv;rw[List.reverse_cons,List.reverse_cons]
       exact(ih _ h2).append (.cons h1 .nil)
   . exact p2.elim
 . exact p2.elim
theorem ye:JU K (fun xs H Q=>∃ p ys,xs=[.ref p] /\ ((SqL K H p ys /\ ∀ l,H l=none->Q (.ref l) (upd H l (.tup ys))) \/ (SqT K H p ys /\ Q (.ref p) H))) mG:=by
 intro S H x v rr Q I hx e k
 cases x with
 | lst xs=>
   cases e;obtain⟨p,vs,rfl,hq,r⟩:=gD hx
   refine⟨p,vs,rfl,.inl ⟨hq,fun l hl=>k _ _ _ (bq.both I hl) ?_⟩⟩
   show Rep K _ _ _;unfold Rep
   exact⟨l,vs,rfl,SqT.new bQ,r.mono (bq.both (o:=.tup vs) I hl).s⟩
 | tup xs=>
   cases e;obtain⟨p,vs,rfl,hq,r⟩:=nT hx
   refine⟨p,vs,rfl,.inr ⟨aK.tup I hq,k _ S H (bq.refl I) ?_⟩⟩
   show Rep K _ _ _;unfold Rep
   exact⟨p,vs,rfl,hq,r⟩
 |_=>cases e
end
end L2.P
namespace L2.E
open PySem PySem.Spec PyProof.Rows L2
theorem xr{X:Cx}{cl:List (Str×Addr)}(S:lu X scope cl M ι x)(hc:X.calm=true)(hi:QI X (.Name x px) iter wi)(hcd:∀ C s₀ H₀ ex,QT (blk X scope cl (M++[x]) C s₀ H₀ ex) c tc)(he:∀ C s₀ H₀ ex,QE (blk X scope cl (M++[x]) C s₀ H₀ ex) elt te)
  (hs:∀ v,foldedSetIterable iter X.env v=pure v:=by intro _;rfl):QE X (.ListComp elt [⟨.Name x px,iter,[c],0⟩] scope pos) (r6 wi ι tc te):=⟨CK S hc hi.out (fun a b c d=>(hcd a b c d).out) (fun a b c d=>(he a b c d).out) hs⟩
theorem ET{X:Cx}{e st:Expr}{te ts:TE}{pos p2:Pos}(he:QE X e te)(hk:QE X st ts):QE X (.Subscript e (.Slice none none (some st) p2) pos) (Lu X.K te ts):=⟨Jl he.out hk.out⟩
theorem Ht{X:Cx}{cl:List (Str×Addr)}{py spos:Pos}(hN:X.N.Nodup)(hiy:X.N[i]?=some y)(hy:Loc X.env.scope y)(S:lu X scope cl M ι x)(hc:X.calm=true)(hi:QI X (.Name x px) iter wi)(he:∀ C s₀ H₀ ex,QE (blk X scope cl (M++[x]) C s₀ H₀ ex) elt te)
  (hsw:swapsWith (.ListComp elt [⟨.Name x px,iter,[],0⟩] scope pos) (some (.Name y py)) spos.line X.env=pure true:=by rfl) (hf:X.fn y=true \/ X.env.scope.names.lookup y=some .local:=by first|exact .inl rfl|exact .inr rfl|assumption)
  (hs:∀ v,foldedSetIterable iter X.env v=pure v:=by intro _;rfl):QS X (.Assign [.Name y py] (.ListComp elt [⟨.Name x px,iter,[],0⟩] scope pos) spos) (tW (uf wi ι te) (kh i)):=⟨GK S hc hi.out (fun a b c d=>(he a b c d).out) hN hiy hy hsw hf hs⟩
theorem C3{X:Cx}{cl:List (Str×Addr)}{py spos:Pos}(hN:X.N.Nodup)(hiy:X.N[i]?=some y)(hy:Loc X.env.scope y)(S:lu X scope cl M ι x)(hc:X.calm=true)(hi:QI X (.Name x px) iter wi)(hcd:∀ C s₀ H₀ ex,QT (blk X scope cl (M++[x]) C s₀ H₀ ex) c tc)(he:∀ C s₀ H₀ ex,QE (blk X scope cl (M++[x]) C s₀ H₀ ex) elt te)
  (hsw:swapsWith (.ListComp elt [⟨.Name x px,iter,[c],0⟩] scope pos) (some (.Name y py)) spos.line X.env=pure true:=by rfl) (hf:X.fn y=true \/ X.env.scope.names.lookup y=some .local:=by first|exact .inl rfl|exact .inr rfl|assumption)
  (hs:∀ v,foldedSetIterable iter X.env v=pure v:=by intro _;rfl):QS X (.Assign [.Name y py] (.ListComp elt [⟨.Name x px,iter,[c],0⟩] scope pos) spos) (tW (r6 wi ι tc te) (kh i)):=⟨Dy S hc hi.out (fun a b c d=>(hcd a b c d).out) (fun a b c d=>(he a b c d).out) hN hiy hy hsw hf hs⟩
def Mf(p:Int×V)(e:DictEntry):Prop:=e.hash=hashInt p.1 /\ (∃ t,e.key=.int p.1 t) /\ RelV p.2 e.val
def DKI(K:PySem.W.Frag)(d:Addr)(kvs:List (Int×V)):Prop:=(d==sysModules)=false /\ (kvs.map (·.1)).Nodup /\ ∃(es:List DictEntry) (ep:Nat),K.lookup d=some ⟨.type "dict",none,.dict es.toArray ep,#[]⟩ /\ Paired Mf kvs es
theorem y7{prog:Program}{w:World}:∀{kvs:List (Int×V)} {es:List DictEntry},Paired Mf kvs es ->
  ∃ us:List (Int×Value),us.map (·.1)=kvs.map (·.1) /\ Pairs (intKind prog w) es us /\ (∀ e∈es,∃ k,(intKind prog w).is k e.key=true /\ e.hash=(intKind prog w).hash k) /\
    ∀ n,match kvs.lookup n with
      |some v=>∃ u,valueAt us n=some u /\ RelV v u
      |none=>valueAt us n=none
 |_,_,.nil=>⟨[],rfl,.nil,fun e he=>(nomatch he),fun n=>rfl⟩
 | (n,v) ::kvs,e ::es,.cons h t=>by
   obtain⟨us,h1,h2,h3,h4⟩:=y7 (prog:=prog) (w:=w) t;obtain⟨k1,⟨tk,k2⟩,k3⟩:=h
   have hk:(intKind prog w).is n e.key=true:=by rw[k2];show Value.isInt n (.int n tk)=true;simp[Value.isInt]
   refine⟨(n,e.val) ::us,by simp[h1],.cons hk rfl h2,fun e' he'=>?_,fun m=>?_⟩
   . rcases List.mem_cons.mp he' with z|z
     . subst z;exact⟨n,hk,k1⟩
     . exact h3 e' z
   . have:=h4 m
     by_cases hm:m=n
     . subst hm;simp[List.lookup,valueAt];exact k3
     . have hb:(m==n)=false:=by simpa using hm
       have hn:¬ n=m:=fun z=>hm z.symm
       simp only[List.lookup,hb]
       unfold valueAt at this ⊢
       simp only[List.find?_cons,hn,decide_false];exact this
theorem DKI.at{X:Cx}{pins:List (Addr×Obj)}{σ:St}{H:Hp}{s:Shared}{d:Addr}{kvs:List (Int×V)}(D:DKI X.K d kvs)(I:Inv X pins σ H s):
  ∃ us:List (Int × Value),s.heap.DictOf (intKind X.prog X.w) d us /\ ∀ n,match kvs.lookup n with
     |some v=>∃ u,valueAt us n=some u /\ RelV v u
     |none=>valueAt us n=none:=by
 obtain⟨_,nd,es,ep,hk,pr⟩:=D;obtain⟨us,h1,h2,h3,h4⟩:=y7 (prog:=X.prog) (w:=X.w) pr
 exact⟨us,⟨_,es.toArray,ep,I.kIn d _ hk,⟨rfl,rfl,rfl⟩,rfl,fun e he=>h3 e (by simpa using he),by simpa using h2,by rw[h1];exact nd⟩,h4⟩
section
variable{X:Cx}
def FX(K:PySem.W.Frag)(td te:TE):TE:=fun σ H Q=>td σ H fun x H1=>∃ d kvs,x=.ref d /\ DKI K d kvs /\ te σ H1 fun y H2=>∃ n,y=.int n /\ Q ((kvs.lookup n).getD .non) H2
theorem yV{o e:Expr}{td te:TE}{apos cpos:Pos}(ho:QE X o td)(he:QE X e te)(hbase:attributeBase o "get" X.env (eval o X.env)=eval o X.env:=by rfl)
  (few:((backTo cpos (starEach [e] X.env)).all (fun x=>!x.1)&&(backToKw cpos (keywordEach [] X.env)).all (fun x=>x.1.isSome)&&decide (([e]:List Expr).length+([]:List Keyword).length+(if([]:List Keyword).isEmpty then 0 else 1)<30))=true:=by rfl)
  (line:(apos.endLine==cpos.line)=true:=by rfl) (trees:backTo cpos (starEach [e] X.env)=[(false,eval e X.env)]:=by rfl):QE X (.Call (.Attribute o "get" apos) [e] [] cpos) (FX X.K td te):=⟨by
 intro pins s σ H Q I h;refine wpAny_Call_method hbase few line PySem.F.plainAttrs_dict PySem.F.slot_dict_get PySem.F.type_dict_get (thn (ho.out pins s σ H _ I h) fun u s1 ⟨x,H1,I1,rx,d,kvs,ex,D,q1⟩=>?_);subst ex
 obtain rfl:u=Value.ref d:=rx
 obtain⟨us,dd,hv⟩:=D.at I1;obtain⟨_,nd,es,ep,hk,pr⟩:=id D
 refine⟨dd.typeIs,fun b hb=>by cases hb;exact⟨_,I1.kIn d _ hk,rfl⟩,?_⟩
 rw[trees];refine Calls.callWith_builtin rfl (Calls.evalArgs_plain (Calls.spliced_cons (thn (he.out pins s1 σ H1 _ I1 q1) fun iv s2 ⟨y,H2,I2,ry,n,ey,q2⟩=>Calls.spliced_nil ?_)));subst ey;obtain⟨t,rfl⟩:=ry;obtain⟨us2,dd2,hv2⟩:=D.at I2;refine call_meetsIn PySem.F.slot_dict_get dd2.typeIs PySem.F.entry_dict_get (PySem.F.args_dict_get_2 _ _) (meets_dict_get (intKind X.prog X.w) d (k:=n) (key:=.int n t) (by show Value.isInt n (.int n t)=true;simp[Value.isInt]) D.1) ⟨_,dd2.mapOf,⟨_,H2,I2.tok _,?_,q2⟩⟩;have h2:=hv2 n
 cases q:kvs.lookup n with
 |none=>rw[q]at h2;rw[h2];rfl
 |some v=>rw[q]at h2;obtain⟨u,e,r⟩:=h2;rw[e];exact r⟩
end
end L2.E
namespace L2.P
open PySem PySem.Spec PyProof.Rows L2 L2.E
section
variable{K:PySem.W.Frag}{cls:String->Option Addr}{W:XW}{Av G S₀ S S' H H' B B':Hp}{ρ:ag}{σ:St}{Q:VK}
def DKP(K:PySem.W.Frag)(d:Addr)(kvs:List (Int×PV)):Prop:=∃ us,DKI K d us /\ Paired (fun (p:Int×PV) (q:Int×V)=>p.1=q.1 /\ ∀ S,Rep K S p.2 q.2) kvs us
theorem DKP.look{d:Addr}:∀{kvs:List (Int×PV)} {us:List (Int×V)},Paired (fun (p:Int×PV) (q:Int×V)=>p.1=q.1 /\ ∀ S,Rep K S p.2 q.2) kvs us->∀ n,match kvs.lookup n with
  |some x=>∃ v,us.lookup n=some v /\ ∀ S,Rep K S x v
  |none=>us.lookup n=none
 |_,_,.nil,n=>rfl
 | (k,x) ::kvs,(k',v) ::us,.cons h t,n=>by
   obtain⟨rfl,hr⟩:=h;have:=DKP.look (d:=d) t n
   by_cases hm:n=k
   . subst hm;simp[List.lookup];exact hr
   . have hb:(n==k)=false:=by simpa using hm
     simp only[List.lookup,hb];exact this
theorem zR{d:Addr}{kvs:List (Int×PV)}{ta:TE}{ma:ag->OE}(D:DKP K d kvs)(ha:JE K cls W ta ma):JE K cls W (FX K (tC (.ref d)) ta) (mUn (gz kvs) ma):=by
 intro Av G S₀ ρ σ S H Q I p;obtain⟨us,D1,pr⟩:=D
 refine⟨d,us,rfl,D1,?_⟩
 refine ha.go I p fun a v S1 H1 I1 w1 r1 p1=>?_
 have ra:=r1.rd I1.sh
 cases e:a.pv with
 | int n=>
   rw[e]at p1 ra;have:=DKP.look (d:=d) pr n;simp only[gz,oE]at p1
   refine⟨n,dD ra,?_⟩
   cases q:kvs.lookup n with
   | none=>
     rw[q]at p1 this;rw[this];exact p1 _ S1 H1 (bq.refl I1.sh) (by show Rep K S1 _ _;unfold Rep;rfl)
   | some x=>
     rw[q]at p1 this;obtain⟨u,eu,hr⟩:=this;rw[eu];exact p1 _ S1 H1 (bq.refl I1.sh) (hr S1)
 |_=>rw[e]at p1;exact p1.elim
end
end L2.P
namespace L2.E
open PySem PySem.Spec PyProof.Rows L2
end L2.E
namespace L2.P
open PySem PySem.Spec PyProof.Rows L2 L2.E
end L2.P
namespace L2.P
open PySem
end L2.P
namespace L2.P
open PySem PySem.Spec PyProof.Rows L2 L2.E
end L2.P
namespace L2.P
open PySem
def x5(x:Str):List PV:=x.cps.toList.map fun c=>.str ⟨#[c]⟩
def pV(ml:ag->OE)(ι:List Nat)(me:ag->OE):ag->OE:=fun ρ=>(ml ρ).bind fun r=>match r.pv with
 |.str x=>noX (dg me (cX ι ρ) (x5 x))
 |_=>.bad
@[simp] theorem Gh(ml:ag->OE)(ι:List Nat)(me:ag->OE)(ρ:ag):pV ml ι me ρ=((ml ρ).bind fun r=>match r.pv with
  |.str x=>noX (dg me (cX ι ρ) (x5 x))
  |_=>.bad):=rfl
def Ge:PV->Option RV
 |.str x=>if x.length=1 then some (.sh (.int (x.cps.getD 0 0:Nat)))else none
 |_=>none
def pN:PV->Option RV
 |.int i=>if i.natAbs.log2<1920 then some (.sh (.str (toString i)))else none
 |_=>none
end L2.P
namespace L2
open PySem PySem.Spec PyProof.Rows
def Its(x:Str):It:=⟨fun i _=>i<x.cps.size,fun i H v H'=>H'=H /\ ∃ c,x.cps[i]?=some c /\ v=.str ⟨#[c]⟩,fun i _=>x.cps.size<=i⟩
theorem zB{P:Program}{w:World}{K:PySem.W.Frag}{tg:Expr}{it:Addr}{x:Str}{t:Tok}{n:String}(hn:["enumerate","zip","dict_itemiterator","dict_reverseitemiterator","odict_iterator","itertools.zip_longest","itertools.pairwise"].contains n=false)
  (W:∀ A:Around,A.handled=none->Walks P w A it [it] [it] x.cps.size (SignAt x) (fun i h=>h.IsStrIter it n x t i))
  (De:∀(A:Around) (s:Shared) (i:Nat) (Q:Option Value->Shared->Prop) (E:Value->Shared->Prop),A.handled=none->s.heap.IsStrIter it n x t i->x.cps[i]?=none->(∀ h',Heap.ExtBut it s.heap h'->Q none { s with heap:=h' })->wpAny (model P w) A (pyNext (.ref it)) Q E s)
  (Se:∀(A:Around) (i:Nat) (s:Shared) (Q:Value->Shared->Prop) (E:Value->Shared->Prop),s.heap.IsStrIter it n x t i->Q (.ref it) s->wpAny (model P w) A (pyIter (.ref it)) Q E s):Turn P w K tg (Its x) [it] it (fun i h=>h.IsStrIter it n x t i) where
 mem:=by simp
 obj:=fun i h st b hb=>by
  have e:b=it:=by simpa using hb
  subst e;obtain⟨o,e,c,d⟩:=st
  exact⟨o,e,fun v z=>by rw[d]at z;cases z⟩
 keep:=fun i h h' st k=>let ⟨o,e,r⟩:=st;⟨o,k it (by simp) o e,r⟩
 item:=by
  intro X hP hw hK hc i pins s σ H E I hf st hg;subst hP hw hK;obtain⟨f0,f1,f2,f3,f4,f5⟩:=hf it (by simp)
  refine(W X.A (I.ok.hd hc)).item i s _ _ hg st fun v h' tk hv st' kk=>?_
  obtain⟨c,u,hc1,rfl⟩:=hv
  have I1:Inv X pins σ H { s with heap:=h',toks:=tk }:=I.turned (fun b o hb e=>kk b o (by simpa using hb) e) f0 f1 f3 f4 f5
  obtain⟨o,e,cc,d⟩:=id st'
  exact⟨_,rfl,B3 (s:={ s with heap:=h',toks:=tk }) e cc d hn ⟨.str ⟨#[c]⟩,H,I1,⟨u,rfl⟩,⟨rfl,c,hc1,rfl⟩,st',fun b hb=>(hf b hb).1⟩⟩
 done:=by
  intro X hP hw hK hc i pins s σ H E I hf st hg;subst hP hw hK;obtain⟨f0,f1,f2,f3,f4,f5⟩:=hf it (by simp)
  have hg':x.cps.size<=i:=hg
  exact De X.A s i _ _ (I.ok.hd hc) st (by simp;omega) fun h' eb=>⟨rfl,I.turned (t':=s.toks) (fun b o hb e=>eb b o hb e) f0 f1 f3 f4 f5⟩
 self:=fun A i s Q E st h=>Se A i s Q E st h
def Kd(tl:TE):TI:=fun σ H R=>tl σ H fun v H1=>∃ x,v=.str x /\ R (Its x) H1
theorem Jh{X:Cx}{tg:Expr}{l:Expr}{tl:TE}(hl:PE X l tl):PI X tg l (Kd tl):=by
 intro pins s σ H R I h
 refine thn (hl pins s σ H _ I h) fun v s1 ⟨y,H1,I1,r1,q1⟩=>?_
 obtain⟨x,e,q⟩:=q1;subst e;obtain⟨t,rfl⟩:=r1
 have hf:∀ b∈[s1.heap.objs.size],ni X pins H1 b:=fun b hb=>by
  have e:b=s1.heap.objs.size:=by simpa using hb
  subst e;exact I1.BB (Nat.le_refl _) (I1.hok.fresh (Nat.le_refl _))
 cases ha:x.cps.all (·<128)with
 | false=>
   exact wpAny_pyIter_wide ha ⟨s1.heap.objs.size,[s1.heap.objs.size],_,_,H1,rfl,I1.kept (t':=s1.toks) fun b o e=>Heap.get?_push_of_some _ e,
    zB (n:="str_iterator") (x:=x) (t:=t) (by decide) (fun A' hA=>Walks.strWide hA _ x t) (fun A s i Q E hA st hx hQ=>wpAny_pyNext_wide_end hA st hx hQ) (fun A i s Q E st h=>wpAny_pyIter_striter_wide st h),⟨_,Heap.get?_push_size _ rfl,rfl,rfl⟩,hf,q⟩
 | true=>
   exact wpAny_pyIter_ascii ha ⟨s1.heap.objs.size,[s1.heap.objs.size],_,_,H1,rfl,I1.kept (t':=s1.toks) fun b o e=>Heap.get?_push_of_some _ e,
    zB (n:="str_ascii_iterator") (x:=x) (t:=t) (by decide) (fun A' hA=>Walks.strAscii hA _ x t) (fun A s i Q E hA st hx hQ=>wpAny_pyNext_ascii_end hA st hx hQ) (fun A i s Q E st h=>wpAny_pyIter_striter_ascii st h),⟨_,Heap.get?_push_size _ rfl,rfl,rfl⟩,hf,q⟩
end L2
theorem L2.E.boot_ord:PySem.bootBuiltins "ord" = some (.builtin "ord"):=by decide +kernel
namespace L2.P
open PySem PySem.Spec PyProof.Rows L2 L2.E
theorem E9{X:L2.Cx}{tg l:Expr}{tl:TE}(h:QE X l tl):QI X tg l (Kd tl):=⟨Jh h.out⟩
section
variable{K:PySem.W.Frag}{cls:String->Option Addr}{W:XW}{Av G S₀ S S' H H' B B':Hp}{ρ:ag}{σ:St}{Q:VK}{F:Nat->List Addr}
theorem zN{tl te:TE}{ml me:ag->OE}{ι:List Nat}(hι:ι.Nodup)(hl:JE K cls W tl ml)(he:JE K cls (fun _ _ _ _=>False) te me):JE K cls W (uf (Kd tl) ι te) (pV ml ι me):=by
 intro Av G S₀ ρ σ S H Q I p
 refine hl.go I p fun r v S1 H1 I1 w1 r1 p1=>?_
 have ra:=r1.rd I1.sh
 cases e:r.pv with
 | str x=>
   rw[e]at p1 ra;have hv:=jg ra;subst hv
   refine⟨x,rfl,?_⟩
   dsimp only at p1
   cases em:dg me (cX ι ρ) (x5 x)with
   |exc c fs=>rw[em]at p1;exact p1.elim
   |bad=>rw[em]at p1;exact p1.elim
   | ok ys=>
     rw[em]at p1;simp only[noX]at p1;split at p1
     . rename_i hlen
       have hcl:(x5 x).length=x.cps.size:=by simp[x5]
       refine p7 hι he I1 em hlen (fun k H' y g hx=>?_) (fun H' g=>by show x.cps.size<=(x5 x).length;rw[hcl];exact Nat.le_refl _) fun D S' H' w nD sD ⟨us,hD,rr⟩=>p1 (.ref D) S' H' w ⟨D,us,rfl,nD,sD,hD,rr⟩
       have hk:k<x.cps.size:=by rw[<- hcl];exact(List.getElem?_eq_some_iff.mp hx).1
       refine⟨hk,?_⟩
       rintro v' H2 ⟨rfl,c,hc,rfl⟩
       refine⟨rfl,?_⟩
       have hy:y=.str ⟨#[c]⟩:=by
        unfold x5 at hx;rw[List.getElem?_map]at hx
        have:x.cps.toList[k]?=some c:=by simpa using hc
        rw[this]at hx
        exact(Option.some.inj hx).symm
       subst hy;unfold Rep;rfl
     . exact p1.elim
 |_=>rw[e]at p1;exact p1.elim
theorem LB:JU K (fun xs H Q=>∃ x,xs=[.str x] /\ x.length=1 /\ Q (.int (x.cps.getD 0 0:Nat)) H) Ge:=by
 intro S H x v rr Q I hx e k
 cases x with
 | str x=>
   by_cases hl:x.length=1
   . have e':Ge (.str x)=some (.sh (.int (x.cps.getD 0 0:Nat))):=if_pos hl
     rw[e']at e;cases e
     exact⟨x,by rw[jg hx],hl,k _ S H (bq.refl I) (by show Rep K S _ _;unfold Rep;rfl)⟩
   . have e':Ge (.str x)=none:=if_neg hl
     rw[e']at e;cases e
 |_=>cases e
theorem FK:JU K (fun xs H Q=>∃ i:Int,xs=[.int i] /\ i.natAbs.log2<1920 /\ Q (.str (toString i)) H) pN:=by
 intro S H x v rr Q I hx e k
 cases x with
 | int i=>
   by_cases hl:i.natAbs.log2<1920
   . have e':pN (.int i)=some (.sh (.str (toString i))):=if_pos hl
     rw[e']at e;cases e
     exact⟨i,by rw[dD hx],hl,k _ S H (bq.refl I) (by show Rep K S _ _;unfold Rep;rfl)⟩
   . have e':pN (.int i)=none:=if_neg hl
     rw[e']at e;cases e
 |_=>cases e
end
end L2.P
namespace HT
open PySem PyProof.Rows
end HT
namespace L2
open PySem PySem.Spec PyProof.Rows
end L2
namespace L2.P
open PySem PySem.Spec PyProof.Rows L2 L2.E
end L2.P
namespace HT
open PySem PyProof.Rows
open AutoSeq1 (wpAny_loadPart')
end HT
namespace L2
open PySem PySem.Spec PyProof.Rows
end L2
namespace L2.P
open PySem PySem.Spec PyProof.Rows L2 L2.E
end L2.P
namespace L2.P
open PySem
def MT(kvs:List (Int×PV))(a b:RV):OE:=match a.pv,b with
 |.int n,.sh d=>.ok (.sh ((kvs.lookup n).getD d))
 |_,_=>.bad
def KS(kvs:List (Int×Int)):ag->OD:=fun _=>.ok (.di (kvs.map fun p=>(p.1,.int p.2)))
def zV(neg:Bool)(me:ag->OE)(i:Nat)(mp:MP):ag->OE:=fun ρ=>(me ρ).bind fun r=>match r.pv with
 | .int n=>(match subAt i mp ρ with
   |some (.di kvs)=>.ok (.sh (.bl (if neg then !(kvs.lookup n).isSome else(kvs.lookup n).isSome)))
   |_=>.bad)
 |_=>.bad
def B1(i:Nat)(mp:MP)(me:ag->OE):ag->OE:=fun ρ=>match subAt i mp ρ with
 | some (.di kvs)=>(me ρ).bind fun r=>(match r.pv with
   |.int n=>oE ((kvs.lookup n).map .sh)
   |_=>.bad)
 |_=>.bad
def EX:ag->OS:=fun _=>.bad
def BR:PV->Option RV
 | .str x=>(match x.cps.toList with
   |[c]=>if 48<=c /\ c<=57 then some (.sh (.int ((c:Int) - 48)))else none
   |_=>none)
 |_=>none
def dH(i:Nat)(mp:MP)(me:ag->OE):ag->OS:=fun ρ=>tq i mp ρ fun u put=>match u with
 | .ol ts=>(me ρ).cW ρ fun r=>(match r with
   |.fr ys=>if ts.length+ys.length<=lim then .nx (put (.ol (ts++ys.map .sh)))else .bad
   |.sh (.lst ys)=>if ts.length+ys.length<=lim then .nx (put (.ol (ts++ys.map .sh)))else .bad
   |_=>.bad)
 |_=>.bad
end L2.P
namespace L2
open PySem PySem.Spec PyProof.Rows
end L2
namespace L2.E
open PySem PySem.Spec PyProof.Rows L2
section
variable{X:Cx}
def IW:TS:=fun _ _ _=>False
theorem HI{e:Stmt}:QS X e IW:=⟨fun _ _ _ _ _ _ h=>h.elim⟩
end
end L2.E
namespace L2.P
open PySem PySem.Spec PyProof.Rows L2 L2.E
section
variable{K:PySem.W.Frag}{cls:String->Option Addr}{W:XW}{S:Hp}
theorem bu.reverse{xs:List PV}{vs:List V}(h:bu K S xs vs):bu K S xs.reverse vs.reverse:=by
 induction xs generalizing vs with
 |nil=>rw[h.nil_inv];exact .nil
 | cons x xs ih=>
   obtain⟨v,r,rfl,q,h'⟩:=h.cons_inv;rw[List.reverse_cons,List.reverse_cons]
   exact(ih h').append (.cons q .nil)
theorem Gw:JS K cls W IW EX:=fun _ _ _ _ _ _ _ _ _ p=>p
end
end L2.P
namespace L2.E
open PySem PySem.Spec PyProof.Rows L2
section
variable{X:Cx}{o i:Expr}{td ty:TE}{pos:Pos}
theorem Jv(hu:X.A.units+1<cLine)(hi:QE X i ty)(ho:QE X o td)(h1:behindInMarks .In o=false:=by first|exact zU _ (by decide) (by decide)|rfl):QT X (.Compare i [.In] [o] pos) (tB (Kz ty td)):=⟨KY (Kn hu hi.out ho.out) h1⟩
theorem Hi(hu:X.A.units+1<cLine)(ho:QE X o td)(hi:QE X i ty)(hs:Lw i):QE X (.Subscript o i pos) (D3 td ty):=⟨Hq hu ho.out hi.out hs⟩
structure QPs(X:Cx)(pos:Pos)(keys:List (Option Expr))(values:List Expr)(trs:List (TE×TE)):Prop where
 out:PPs X pos keys values trs
theorem HY:QPs X pos [] [] []:=⟨G4⟩
theorem kd{ks:List (Option Expr)}{trs:List (TE×TE)}(hk:QE X k tk)(hv:QE X v tv)(hr:QPs X pos ks vs trs):QPs X pos (some k ::ks) (v ::vs) ((tk,tv) ::trs):=⟨EE hk.out hv.out hr.out⟩
theorem GC{keys:List (Option Expr)}{values:List Expr}{trs:List (TE×TE)}(h:QPs X pos keys values trs)(hall:keys.all (·.isSome)=true:=by rfl)(hl:keys.length=values.length:=by rfl)(h0:keys≠[]:=by intro z;cases z)(h15:keys.length<=15:=by decide):QE X (.Dict keys values pos) (F6 trs):=⟨Ig h.out hall hl h0 h15⟩
end
end L2.E
namespace L2.P
open PySem PySem.Spec PyProof.Rows L2 L2.E
section
variable{K:PySem.W.Frag}{cls:String->Option Addr}{W:XW}{S H:Hp}
theorem Ab(kvs:List (Int×Int))(σ:St):∀(H:Hp) (R:List (V×V)->Hp->Prop),R (kvs.map fun p=>(.int p.1,.int p.2)) H->xW (kvs.map fun p=>(tC (.int p.1),tC (.int p.2))) σ H R:=by
 induction kvs with
 |nil=>intro H R h;exact h
 |cons p kvs ih=>intro H R h;exact ih H _ h
theorem CI(more:List (Key×V)):∀ kvs:List (Key×V),((kvs++more).map (·.1)).Nodup->pL kvs more=kvs++more:=by
 induction more with
 |nil=>intro kvs _;simp[pL]
 | cons p more ih=>
   intro kvs h
   have hn:mN kvs p.1=none:=by
    unfold mN;rw[Option.map_eq_none_iff,List.find?_eq_none];intro q hq e
    have e':q.1=p.1:=of_decide_eq_true e
    rw[List.map_append,List.nodup_append]at h;exact h.2.2 q.1 (List.mem_map_of_mem hq) p.1 (by simp) e'
   show pL (putK kvs p.1 p.2) more=_;rw[E2 _ hn,ih _ (by simpa using h)];simp
theorem K1{kvs:List (Int×Int)}(nd:(kvs.map (·.1)).Nodup)(h15:kvs.length<=15):JD K cls W (F6 (kvs.map fun p=>(tC (.int p.1),tC (.int p.2)))) (KS kvs):=by
 intro Av G S₀ ρ σ S H Q I p;intro q hq;refine Ab kvs σ _ _ ⟨bQ,kvs.map fun p=>(Sum.inl p.1,V.int p.2),by simp[kV],by simpa using h15,?_⟩
 rw[Gx,CI _ [] (by
  rw[List.nil_append,List.map_map]
  have:((fun x:Key×V=>x.1) ∘ fun p:Int×Int=>((Sum.inl p.1:Key),V.int p.2))=(fun k:Int=>(Sum.inl k:Key)) ∘ fun p:Int×Int=>p.1:=rfl
  rw[this,<- List.map_map]
  exact List.pairwise_map.mpr (List.Pairwise.imp (fun h z=>h (Sum.inl.inj z)) nd)),List.nil_append]
 refine p (.ref q) S _ (bq.heap I.sh hq) ⟨[q],?_,by simp,fun a ha=>?_⟩
 . unfold bx
   refine⟨q,_,rfl,bQ,rfl,?_⟩
   clear nd h15 p
   induction kvs with
   |nil=>exact .nil
   |cons x kvs ih=>exact .cons ⟨rfl,by unfold Rep;rfl⟩ ih
 . have z:a=q:=by simpa using ha
   subst z
   exact⟨hq,I.sh.free hq⟩
theorem tR.look{kvs:List (Int×PV)}{us:List (Key×V)}(h:tR K S kvs us)(n:Int):match kvs.lookup n with
  |some x=>∃ v,mN us (Sum.inl n:Key)=some v /\ Rep K S x v
  |none=>mN us (Sum.inl n:Key)=none:=by
 induction h with
 |nil=>rfl
 | @cons p q ps qs h t ih=>
   obtain⟨h1,h2⟩:=h;obtain⟨k,x⟩:=p;obtain⟨k',v⟩:=q
   dsimp only at h1 h2
   subst h1
   by_cases hm:n=k
   . subst hm;simp[List.lookup,mN];exact h2
   . have hb:(n==k)=false:=by simpa using hm
     have hd:decide ((Sum.inl k:Key)=Sum.inl n)=false:=decide_eq_false fun z=>hm (Sum.inl.inj z).symm
     simp only[List.lookup,hb]
     have e:mN ((Sum.inl k,v) ::qs) (Sum.inl n:Key)=mN qs (Sum.inl n):=by
      unfold mN;rw[List.find?_cons,hd]
     rw[e];exact ih
theorem tR.Hb{kvs:List (Int×PV)}{us:List (Key×V)}(h:tR K S kvs us)(n:Int):(mN us (Sum.inl n:Key)).isSome=(kvs.lookup n).isSome:=by
 have:=h.look n
 cases q:kvs.lookup n with
 |none=>rw[q]at this;rw[this];rfl
 |some x=>rw[q]at this;obtain⟨v,e,_⟩:=this;rw[e];rfl
theorem G0{ma:ag->OE}(ha:JE K cls W ta ma)(hp:JP K cls td i mp):JE K cls W (Kz ta td) (zV false ma i mp):=by
 intro Av G S₀ ρ σ S H Q I p
 refine ha.go I p fun a v S1 H1 I1 w1 r1 p1=>?_
 have ra:=r1.rd I1.sh
 cases e:a.pv with
 | int n=>
   rw[e]at p1 ra
   dsimp only at p1
   split at p1
   . rename_i kvs es
     refine hp.sub I1 es fun w S2 H2 f w2 _ r=>?_
     unfold bx at r;obtain⟨q,us,rfl,hq,_,hd⟩:=r;have hv:=dD ra;subst hv
     refine⟨q,_,rfl,xR.k (k:=Sum.inl n) hq,?_⟩
     rw[hd.Hb n];exact p1 _ S2 H2 w2 pS
   . exact p1.elim
 |_=>rw[e]at p1;exact p1.elim
theorem Hd{ma:ag->OE}(hp:JP K cls td i mp)(ha:JE K cls W ta ma):JE K cls W (D3 td ta) (B1 i mp ma):=by
 intro Av G S₀ ρ σ S H Q I p;unfold B1 at p;split at p
 . rename_i kvs es
   refine hp.sub I es fun w S2 H2 f w2 I2 r=>?_
   refine ha.go I2 (p.back w2) fun a v S1 H1 I1 w1 r1 p1=>?_
   have ra:=r1.rd I1.sh
   have r':=r.mono w1.s fun a _ o z=>w1.g _ _ z
   unfold bx at r';obtain⟨q,us,rfl,hq,_,hd⟩:=r'
   cases e:a.pv with
   | int n=>
     rw[e]at p1 ra
     dsimp only at p1
     have hv:=dD ra;subst hv;have hl:=hd.look n
     cases el:kvs.lookup n with
     |none=>rw[el]at p1;exact p1.elim
     | some x=>
       rw[el]at p1 hl;obtain⟨u,eu,ru⟩:=hl
       refine⟨q,u,rfl,by have:=xR.k (k:=(Sum.inl n:Key)) hq;rw[eu]at this;exact this,p1 u S1 H1 (bq.refl I1.sh) ru⟩
   |_=>rw[e]at p1;exact p1.elim
 . exact p.elim
end
end L2.P
namespace L2.E
open PySem PySem.Spec PyProof.Rows L2
end L2.E
namespace L2.P
open PySem PySem.Spec PyProof.Rows L2 L2.E
end L2.P
namespace L2.E
open PySem PySem.Spec PyProof.Rows L2
theorem DA{X:Cx}:oI X (.type "int") (fun xs H Q=>∃ x n,xs=[.str x] /\ PySem.intText? x=some n /\ x.length<=640 /\ Q (.int n) H):=by
 intro pins s σ H xs us Q I r h;obtain⟨x,n,rfl,h1,h2,q⟩:=h;obtain⟨u,rfl,t,rfl⟩:=vals1 r;exact PySem.W.KIN.call_text h1 h2 ⟨.int n,H,I.tok _,⟨_,rfl⟩,q⟩
theorem AQ{x:Str}{c:Nat}(h:x.cps.toList=[c])(h1:48<=c)(h2:c<=57):PySem.intText? x=some ((c:Int) - 48) /\ x.length<=640:=by
 have e:x=⟨#[c]⟩:=by
  cases x with
  | mk a=>cases a with
    |mk l=>simp at h;subst h;rfl
 subst e
 refine⟨?_,by show 1<=640;decide⟩
 have hc:c=48 \/ c=49 \/ c=50 \/ c=51 \/ c=52 \/ c=53 \/ c=54 \/ c=55 \/ c=56 \/ c=57:=by omega
 rcases hc with rfl|rfl|rfl|rfl|rfl|rfl|rfl|rfl|rfl|rfl<;>decide +kernel
end L2.E
namespace L2.P
open PySem PySem.Spec PyProof.Rows L2 L2.E
theorem HV{K:PySem.W.Frag}:JU K (fun xs H Q=>∃ x n,xs=[.str x] /\ PySem.intText? x=some n /\ x.length<=640 /\ Q (.int n) H) BR:=by
 intro S H x v rr Q sh r e k
 cases x with
 | str z=>
   have hv:v=.str z:=by have r':Rep K S (.str z) v:=r;unfold Rep at r';exact r'
   subst hv;unfold BR at e
   dsimp only at e
   split at e
   . rename_i c hc;split at e
     . rename_i h;cases e;obtain⟨h1,h2⟩:=AQ hc h.1 h.2
       exact⟨z,_,rfl,h1,h2,k _ S H (bq.refl sh) (by show Rep K S _ _;unfold Rep;rfl)⟩
     . cases e
   . cases e
 |_=>cases e
end L2.P
namespace L2.E
open PySem PySem.Spec PyProof.Rows L2
theorem yD(l:Addr)(items:Array Value)(n:Nat)(b:Addr)(items2:Array Value)(n2:Nat)(dd2:Option Addr)(sl2:Array (Option Value))(hc0:¬(!items.isEmpty&&Builtin.List.listTooLong (items.size+items2.size))=true)(hc1:items.size<=sizeLine)(hs2:items.size+items2.size<=sizeLine+1):
  Meets (Builtin.«list.extend» ⟨[.ref l,.ref b],[]⟩) (fun _ R s=>s.heap.get? l=some { cls:=.type "list",dict:=none,data:=.seq items n,slots:=#[] } /\ s.heap.get? b=some { cls:=.type "list",dict:=dd2,data:=.seq items2 n2,slots:=sl2 } /\ R (.ok (.ret Value.none)) { s with heap:=s.heap.update l (Obj.mapSeq fun x=>x++items2),toks:=s.toks }):=
 .of_wp fun prog w A R s h=>by
  obtain⟨hp,g,d,tk,os⟩:=s;obtain⟨hl,hb,h⟩:=h;have f1:=AutoSeq1.idx_int;have f2:=AutoSeq1.sub_tuple_tuple;have f3:=AutoSeq1.sub_list_list;have f4:=AutoSeq1.sub_tuple_list;have f5:=AutoSeq1.sub_list_tuple
  have hz':(items++items2).size<=sizeLine+1:=by rw[Array.size_append];exact hs2
  wp_walk using (wpAny_updateSeq hl rfl (hz:=hc1) (_hz':=hz')),wpAny_loadPart' hl,wpAny_loadPart' hb;exact⟨_,rfl,h⟩
def Aw(K:PySem.W.Frag):V->List V->Hp->VK->Prop:=fun x vs H Q=>∃ l b xs zs,x=.ref l /\ vs=[.ref b] /\ H l=some (.lst xs) /\ SqL K H b zs /\ xs.length+zs.length<=sizeLine /\ Q .non (upd H l (.lst (xs++zs)))
theorem fM{X:Cx}:MtM X "list.extend" (Aw X.K):=by
 intro pins s σ H x vs v us Q I rx rv h;obtain⟨l,b,xs,zs,rfl,rfl,hH,hB,hz,q⟩:=h;cases rx;obtain⟨u,rfl,ru⟩:=rv.one;cases ru;obtain⟨z,its,n,r,hl,e⟩:=I.Gd hH;obtain⟨its2,r2,pl2,z2⟩:=I.list hB;obtain⟨⟨cls2,dd2,data2,sl2⟩,ho2,hc2,n2,hd2⟩:=pl2.isList;simp only at hc2 hd2;subst hc2 hd2;have hl2:=r2.length
 have hsz:its.toArray.size+its2.toArray.size<=sizeLine:=by rw[List.size_toArray,List.size_toArray];omega
 have hlong:¬ (!its.toArray.isEmpty&&Builtin.List.listTooLong (its.toArray.size+its2.toArray.size))=true:=by
  rw[zL hsz,Bool.and_false];exact Bool.false_ne_true
 refine call_meets F.slot_list_extend ⟨_,e,rfl⟩ F.entry_list_extend (F.args_list_extend_2 _ _)
  (yD l its.toArray n b its2.toArray n2 dd2 sl2 hlong (by rw[List.size_toArray];omega) (by omega)) ⟨e,ho2,?_⟩
 refine⟨.non,_,I.EL (its':=its++its2) hH e (by simp) (r.append r2) ?_,rfl,q⟩
 rw[List.length_append];omega
end L2.E
namespace L2.P
open PySem PySem.Spec PyProof.Rows L2 L2.E
section
variable{K:PySem.W.Frag}{cls:String->Option Addr}{W:XW}{Av G S₀ S S' H H' B B':Hp}{ρ:ag}{σ:St}{Q:VK}{F:Nat->List Addr}
theorem fR{i:Nat}{te tx:TE}{mp:MP}{me:ag->OE}(hp:JP K cls te i mp)(hx:JE K cls W tx me):JS K cls W (sT (tBM K "list" (Aw K) te (iY tx kL))) (dH i mp me):=by
 intro Av G S₀ ρ σ S H D I p;obtain⟨io,t,π,u,hi,e0,e1,p⟩:=pW p;obtain⟨v0,hv⟩:=I.val hi
 cases u with
 |sh x=>exact p.elim
 |ob c ks us=>exact p.elim
 |di x=>exact p.elim
 |dt x=>exact p.elim
 | ol ts=>
   dsimp only at p
   refine hp.at I hi hv e0 e1 fun w S1 H1 w1 I1 wk=>?_
   have p1:=p.back w1.s;obtain⟨F,J1⟩:=id I1;obtain⟨q,vs,ff,rest,wk',hq,hl,rs,_,nd,c⟩:=J1.rV hi hv e1;have:=wk.inj wk';subst this
   refine⟨.inl ⟨rfl,_,SqL.new hq⟩,?_⟩
   refine hx.goS I1 p1 fun r v S2 H2 I2 w2 r2 p2=>?_
   have ndf:ff.Nodup:=(List.nodup_cons.mp (List.nodup_append.mp nd).1).2
   cases r with
   |al ys=>exact p2.elim
   | sh x=>
     cases x with
     | lst ys=>
       dsimp only at p2
       split at p2
       . rename_i hlt
         have r3:Rep K S2 (.lst ys) v:=r2
         unfold Rep at r3;obtain⟨b,us,rfl,k3,k4⟩:=r3
         refine⟨q,b,vs,us,rfl,rfl,w2.g _ _ hq,aK.seq w2.sh k3,by rw[hl,k4.length];exact hlt,?_⟩
         obtain⟨g,J3,_⟩:=c S2 H2 (ts++ys.map .sh) (vs++us) (ff++[]) w2 ((rs.mono w2.s fun a _ o h=>w2.g _ _ h).append (.shs k4)) (by rw[List.append_nil];exact ndf) fun a ha=>.inl (by simpa using ha)
         exact p2 σ S2 _ ⟨_,J3⟩ (aK.refl _)
       . exact p2.elim
     |_=>exact p2.elim
   | fr ys=>
     dsimp only at p2
     split at p2
     . rename_i hlt;obtain⟨b,us,rfl,k1,k2,k3,k4⟩:=r2
       refine⟨q,b,vs,us,rfl,rfl,w2.g _ _ hq,SqL.new k3,by rw[hl,k4.length];exact hlt,?_⟩
       obtain⟨g,J3,_⟩:=c S2 H2 (ts++ys.map .sh) (vs++us) (ff++[]) w2 ((rs.mono w2.s fun a _ o h=>w2.g _ _ h).append (.shs k4)) (by rw[List.append_nil];exact ndf) fun a ha=>.inl (by simpa using ha)
       exact p2 σ S2 _ ⟨_,J3⟩ (aK.refl _)
     . exact p2.elim
end
end L2.P
namespace L2.E
open PySem PySem.Spec PyProof.Rows L2
theorem eJ{N P:List Str}{sc:Scope}(a:sc.kind=.function:=by rfl)(b:sc.isCoroutine=false:=by rfl)(c:sc.isGenerator=false:=by rfl)(d:N.Nodup:=by decide +kernel)(e:N.take P.length=P:=by rfl)
  (f:∀ x∈P,sc.names.lookup x=some .local \/ sc.names.lookup x=some .cell:=by decide +kernel) (g:∀ y∈sc.names,y.2≠.free:=by decide +kernel):aW N P sc:=⟨a,b,c,d,e,f,g⟩
structure Ent(K:PySem.W.Frag)(mg:Str->Option Value)(x:Str)(st:Stmt)(f:Addr)(d:FuncData)(ps:List Str):Prop where
 F:Fun K x x st f d
 m:mg x=some (.ref f)
 b:Binds K d ps []
structure Fd(K:PySem.W.Frag)(x:Str)(st:Stmt)(f:Addr)(d:FuncData):Prop where
 a:PySem.W.nsIn K mainGlobals x=some (some (.ref f))
 F:Fun K x x st f d
section
variable{K:PySem.W.Frag}{mg:Str->Option Value}{h:Heap}{x:Str}{st:Stmt}{f:Addr}{d:FuncData}
theorem cY{oc:Value}{od an:Option Addr}{osl:Array (Option Value)}{kV doc pm cdv ct:Value}(a:PySem.W.nsIn K mainGlobals x=some (some (.ref f)))
  (l:K.lookup f=some ⟨oc,od,.func (PySem.W.fnOf x x (eS st) (dF st) (aC st) .none kV doc pm an cdv ct),osl⟩) (c:PySem.W.codeIn K cdv x=true) (k:PySem.W.keepIn K (.ref f)=true):
  Fd K x st f (PySem.W.fnOf x x (eS st) (dF st) (aC st) .none kV doc pm an cdv ct):=⟨a,lG l c k⟩
theorem Fd.e{ps:List Str}(H:Fd K x st f d)(X:K.In h)(G:h.Ns mainGlobals mg)
  (hb:∀(kV doc pm:Value) (an:Option Addr) (cdv ct:Value) (us:List Value),us.length=ps.length->bindArgs (PySem.W.fnOf x x (eS st) (dF st) (aC st) .none kV doc pm an cdv ct) ⟨us,[]⟩=pure (ps.zip us)):Ent K mg x st f d ps:=⟨H.F,PySem.W.mg_of X G H.a,H.F.binds hb⟩
theorem Fd.e0(H:Fd K x st f d)(X:K.In h)(G:h.Ns mainGlobals mg)
  (hb:∀(kV doc pm:Value) (an:Option Addr) (cdv ct:Value),bindArgs (PySem.W.fnOf x x (eS st) (dF st) (aC st) .none kV doc pm an cdv ct) ⟨[],[]⟩=pure []:=by intros;rfl):Ent K mg x st f d []:=
 H.e X G fun p q r s t u us hl=>match us,hl with|[],_=>hb p q r s t u
theorem Fd.e1{a:Str}(H:Fd K x st f d)(X:K.In h)(G:h.Ns mainGlobals mg)
  (hb:∀(kV doc pm:Value) (an:Option Addr) (cdv ct i:Value),bindArgs (PySem.W.fnOf x x (eS st) (dF st) (aC st) .none kV doc pm an cdv ct) ⟨[i],[]⟩=pure [(a,i)]:=by intros;rfl):Ent K mg x st f d [a]:=
 H.e X G fun p q r s t u us hl=>match us,hl with|[_],_=>hb p q r s t u _
theorem Fd.e2{a b:Str}(H:Fd K x st f d)(X:K.In h)(G:h.Ns mainGlobals mg)
  (hb:∀(kV doc pm:Value) (an:Option Addr) (cdv ct i j:Value),bindArgs (PySem.W.fnOf x x (eS st) (dF st) (aC st) .none kV doc pm an cdv ct) ⟨[i,j],[]⟩=pure [(a,i),(b,j)]:=by intros;rfl):Ent K mg x st f d [a,b]:=
 H.e X G fun p q r s t u us hl=>match us,hl with|[_,_],_=>hb p q r s t u _ _
theorem Fd.e3{a b c:Str}(H:Fd K x st f d)(X:K.In h)(G:h.Ns mainGlobals mg)
  (hb:∀(kV doc pm:Value) (an:Option Addr) (cdv ct i j k:Value),bindArgs (PySem.W.fnOf x x (eS st) (dF st) (aC st) .none kV doc pm an cdv ct) ⟨[i,j,k],[]⟩=pure [(a,i),(b,j),(c,k)]:=by intros;rfl):Ent K mg x st f d [a,b,c]:=
 H.e X G fun p q r s t u us hl=>match us,hl with|[_,_,_],_=>hb p q r s t u _ _ _
theorem Fd.e5{a b c e g:Str}(H:Fd K x st f d)(X:K.In h)(G:h.Ns mainGlobals mg)
  (hb:∀(kV doc pm:Value) (an:Option Addr) (cdv ct i j k l m:Value),bindArgs (PySem.W.fnOf x x (eS st) (dF st) (aC st) .none kV doc pm an cdv ct) ⟨[i,j,k,l,m],[]⟩=pure [(a,i),(b,j),(c,k),(e,l),(g,m)]:=by intros;rfl):Ent K mg x st f d [a,b,c,e,g]:=
 H.e X G fun p q r s t u us hl=>match us,hl with|[_,_,_,_,_],_=>hb p q r s t u _ _ _ _ _
end
theorem qz{X:Cx}{pos:Pos}(i:Nat)(h7:X.N.Nodup)(h10:QE X e te)(h8:X.N[i]?=some x:=by rfl)(h9:Loc X.env.scope x:=by first|exact Or.inl rfl|exact Or.inr rfl)
  (h11:autoParam (swapsWith e (some (.Name x pos')) pos.line X.env=pure false) L2.qau._auto_1) (h12:autoParam (X.fn x=true \/ X.env.scope.names.lookup x=some .local) L2.qau._auto_1):QS X (.Assign [.Name x pos'] e pos) (tW te (kh i)):=JM h7 h8 h9 h10 h11 h12
theorem qx{X:Cx}{j k:Nat}{f:Addr}{fd:FuncData}{ps:List Str}{sp:Sp}{W:XW}{x:Str}{st:Stmt}{p pos:Pos}{e:Expr}{es:List Expr}{t:TA}(h15:cp X.prog X.w X.K X.mg X.base (CXE X.prog X.w) j f fd ps sp)(E:Ent X.K X.mg x st f fd ps)(h16:ik k X.A)(h22:Thr X W)(h23:QA X (e ::es) t)
  (hj:j<=k:=by decide) (h17:Gl X x:=by rfl) (h24:autoParam ((x==Str.ofString "__debug__")=false) L2.qau._auto_1) (h25:autoParam (starEach (e ::es) X.env=(false,eval e X.env) ::starEach es X.env) L2.qau._auto_1) (h26:autoParam (((backTo pos (starEach es X.env)).any fun x=>x.1)=false) L2.qau._auto_1):
  QE X (.Call (.Name x p) (e ::es) [] pos) (q8 sp [] W t):=El (h15.mono hj) h16 h17 E.m E.F.kp E.b .nil h22 h23 h24 h25 h26
theorem qo{X:Cx}(h11:X.mg "len" = none)(h:QE X e te)(h10:Gl X "len":=by rfl)(hs:isStar e=false:=by rfl)(h16:autoParam (starEach [e] X.env=(false,eval e X.env) ::starEach [] X.env) L2.qau._auto_1)(h17:autoParam (((backTo pos (starEach [] X.env)).any fun x=>x.1)=false) L2.qau._auto_1):
  QE X (.Call (.Name "len" p) [e] [] pos) (tCB (fun xs H Q=>∃ p ys,xs=[.ref p] /\ (SqL X.K H p ys \/ SqT X.K H p ys) /\ Q (.int ys.length) H) (iY te kL)):=ji yM h10 h11 boot_len (aa h av hs) (by decide) (by decide) h16 h17
theorem qi(h7:IxR X r)(h8:QE X a ta)(h9:QE X b tb)(h10:yG b:=by exact fun _ _=>rfl):QE X (.Subscript a b pos) (tOp r ta tb):=LS h7 h8 h9 h10
theorem bw(h8:OpR X (compareOp op) r)(h9:QE X a ta)(h10:QE X b tb)(h11:behindInMarks op b=false:=by exact jO _):QT X (.Compare a [op] [b] pos) (xh (tOp r ta tb)):=iD h8 h9 h10 h11
theorem qap{X:Cx}{apos cpos pos:Pos}{r:V->List V->Hp->VK->Prop}(h15:MtR X "list.append" r)(h16:QE X o to)(h:QE X e te)(hs:isStar e=false:=by rfl)
  (h18:autoParam (attributeBase o "append" X.env (eval o X.env)=eval o X.env) L2.qau._auto_1) (h19:autoParam (((((backTo cpos (starEach [e] X.env)).all fun x=>!x.1)&&(backToKw cpos (keywordEach [] X.env)).all fun x=>x.1.isSome)&&decide (([e].length+([]:List Keyword).length+if([]:List Keyword).isEmpty=true then 0 else 1)<30))=true) L2.qau._auto_1)
  (h20:autoParam ((apos.endLine==cpos.line)=true) L2.qau._auto_1) (h21:autoParam (starEach [e] X.env=(false,eval e X.env) ::starEach [] X.env) L2.qau._auto_1) (h22:autoParam (((backTo cpos (starEach [] X.env)).any fun x=>x.1)=false) L2.qau._auto_1) (h5:autoParam (swapsWith (.Call (.Attribute o "append" apos) [e] [] cpos) none pos.line X.env=pure false) L2.qau._auto_1):
  QS X (.Expr (.Call (.Attribute o "append" apos) [e] [] cpos) pos) (sT (tBM X.K "list" r to (iY te kL))):=yH (IU PySem.F.plainAttrs_list PySem.F.slot_list_append PySem.F.type_list_append h15 h16 (aa h av hs) h18 h19 h20 h21 h22) h5
theorem qex{X:Cx}{apos cpos pos:Pos}{r:V->List V->Hp->VK->Prop}(h15:MtR X "list.extend" r)(h16:QE X o to)(h:QE X e te)(hs:isStar e=false:=by rfl)
  (h18:autoParam (attributeBase o "extend" X.env (eval o X.env)=eval o X.env) L2.qau._auto_1) (h19:autoParam (((((backTo cpos (starEach [e] X.env)).all fun x=>!x.1)&&(backToKw cpos (keywordEach [] X.env)).all fun x=>x.1.isSome)&&decide (([e].length+([]:List Keyword).length+if([]:List Keyword).isEmpty=true then 0 else 1)<30))=true) L2.qau._auto_1)
  (h20:autoParam ((apos.endLine==cpos.line)=true) L2.qau._auto_1) (h21:autoParam (starEach [e] X.env=(false,eval e X.env) ::starEach [] X.env) L2.qau._auto_1) (h22:autoParam (((backTo cpos (starEach [] X.env)).any fun x=>x.1)=false) L2.qau._auto_1) (h5:autoParam (swapsWith (.Call (.Attribute o "extend" apos) [e] [] cpos) none pos.line X.env=pure false) L2.qau._auto_1):
  QS X (.Expr (.Call (.Attribute o "extend" apos) [e] [] cpos) pos) (sT (tBM X.K "list" r to (iY te kL))):=yH (IU PySem.F.plainAttrs_list PySem.F.slot_list_extend PySem.F.type_list_extend h15 h16 (aa h av hs) h18 h19 h20 h21 h22) h5
end L2.E
namespace L2.P
open PySem PySem.Spec PyProof.Rows L2 L2.E
theorem jD{K:PySem.W.Frag}{cls:String->Option Addr}{mk:ag->OE}(h:JP K cls te i mp)(k:JE K cls (fun _ _ _ _=>False) tk mk):JP K cls (tOp (Ha K) te tk) i (pIx i mp mk):=Mi h k
end L2.P
namespace L2.P
open PySem
theorem OV.get_nil(t:OV):t.get []=some t:=by unfold OV.get;rfl
theorem OV.kQ(t u:OV):t.put [] u=u:=by unfold OV.put;rfl
theorem OV.qU{ts:List OV}{j:Nat}{u:OV}(h:ts[j]?=some u)(π:List Stp):(OV.ol ts).get (.ix j ::π)=u.get π:=by
 rw[OV.get];simp[OV.at1,h]
theorem OV.AR{ts:List OV}{j:Nat}{u x:OV}(h:ts[j]?=some u)(π:List Stp):(OV.ol ts).put (.ix j ::π) x=.ol (ts.set j (u.put π x)):=by
 rw[OV.put];simp[OV.at1,h,OV.ky]
theorem bK{ρ:ag}{i:Nat}{s:Sl}{t:OV}(h:ρ[i]?=some (some s))(hs:slT s=some t):fU i ρ=some t:=by
 unfold fU;rw[h];exact hs
theorem kY{ρ:ag}{i j:Nat}{ts:List OV}{mk:ag->OE}{r:RV}{k:Int}(h:fU i ρ=some (.ol ts))(hk:mk ρ=.ok r)(hr:r.pv=.int k)(hj:ixP ts.length k=some j):pIx i aI mk ρ=some [.ix j]:=by
 unfold pIx;rw[h];simp[aI,OV.get_nil,hk,hr,hj]
theorem yr{ρ:ag}{i j j2:Nat}{ts us:List OV}{mp:MP}{mk:ag->OE}{r:RV}{k:Int}(h:fU i ρ=some (.ol ts))(hp:mp ρ=some [.ix j])(hu:ts[j]?=some (.ol us))(hk:mk ρ=.ok r)(hr:r.pv=.int k)(hj:ixP us.length k=some j2):pIx i mp mk ρ=some [.ix j,.ix j2]:=by
 unfold pIx;rw[h,hp];simp[OV.qU hu,OV.get_nil,hk,hr,hj]
theorem subAt_one{ρ:ag}{i j:Nat}{ts:List OV}{mp:MP}{u:OV}(h:fU i ρ=some (.ol ts))(hp:mp ρ=some [.ix j])(hu:ts[j]?=some u):subAt i mp ρ=some u:=by
 unfold subAt;rw[h,hp];simp[OV.qU hu,OV.get_nil]
theorem tm{ρ:ag}{i j j2:Nat}{ts us:List OV}{mp:MP}{u:OV}(h:fU i ρ=some (.ol ts))(hp:mp ρ=some [.ix j,.ix j2])(hv:ts[j]?=some (.ol us))(hu:us[j2]?=some u):subAt i mp ρ=some u:=by
 unfold subAt;rw[h,hp];simp[OV.qU hv,OV.qU hu,OV.get_nil]
theorem iZ{ρ:ag}{i:Nat}{t:OV}(h:fU i ρ=some t):subAt i aI ρ=some t:=by
 unfold subAt;rw[h];simp[aI,OV.get_nil]
theorem nU{ρ:ag}{i:Nat}{mp:MP}{x:PV}(h:subAt i mp ρ=some (.sh x)):cF i mp ρ=.ok (.sh x):=by unfold cF;rw[h]
theorem wa{ρ:ag}{i:Nat}{mp:MP}{ts:List OV}(h:subAt i mp ρ=some (.ol ts)):gd i mp ρ=.ok (.sh (.int ts.length)):=by unfold gd;rw[h]
theorem vE{ρ:ag}{i:Nat}{mp:MP}{ts:List OV}(h:subAt i mp ρ=some (.ol ts)):du i mp ρ=.ok (!ts.isEmpty):=by unfold du;rw[h]
theorem GU{ρ:ag}{i:Nat}{io:Bool}{ts:List OV}{x:OV}(h:ρ[i]?=some (some (.tr io (.ol (ts++[x]))))):qr i aI ρ=.ok (ρ.set i (some (.tr io (.ol ts)))) (slO x):=by
 unfold qr;rw[h];simp[aI,OV.get_nil,OV.kQ]
theorem uU{ρ:ag}{i:Nat}{io:Bool}{ts:List OV}{x:OV}{md:ag->OD}(h:ρ[i]?=some (some (.tr io (.ol ts))))(hd:md ρ=.ok x)(hl:ts.length<lim):b0 i aI md ρ=.nx (ρ.set i (some (.tr io (.ol (ts++[x]))))):=by
 unfold b0 tq;rw[h];simp only[aI,OV.get_nil,hd,hl,if_true,OV.kQ]
theorem Co{ρ:ag}{i j j2:Nat}{io:Bool}{ts us xs:List OV}{x:OV}{mp:MP}{md:ag->OD}(h:ρ[i]?=some (some (.tr io (.ol ts))))(hp:mp ρ=some [.ix j,.ix j2])(hv:ts[j]?=some (.ol us))(hu:us[j2]?=some (.ol xs))(hd:md ρ=.ok x)(hl:xs.length<lim):
  b0 i mp md ρ=.nx (ρ.set i (some (.tr io (.ol (ts.set j (.ol (us.set j2 (.ol (xs++[x]))))))))):=by
 unfold b0 tq;rw[h,hp];simp only[OV.qU hv,OV.qU hu,OV.get_nil,hd,hl,if_true,OV.AR hv,OV.AR hu,OV.kQ]
theorem uN{ρ:ag}{i j j2:Nat}{io:Bool}{ts us:List OV}{x:OV}{mp:MP}{mk:ag->OE}{md:ag->OD}{r:RV}{k:Int}(h:ρ[i]?=some (some (.tr io (.ol ts))))(hp:mp ρ=some [.ix j])(hv:ts[j]?=some (.ol us))(hk:mk ρ=.ok r)(hr:r.pv=.int k)(hj:ixP us.length k=some j2)(hd:md ρ=.ok x):
  pB i mp mk md ρ=.nx (ρ.set i (some (.tr io (.ol (ts.set j (.ol (us.set j2 x))))))):=by
 unfold pB tq;rw[hd];dsimp only;rw[h,hp];simp only[OV.qU hv,OV.get_nil,hk,fu,hr,hj,OV.AR hv,OV.kQ]
theorem EG{ρ:ag}{i:Nat}{io:Bool}{ts:List OV}{ys:List PV}{me:ag->OE}(h:ρ[i]?=some (some (.tr io (.ol ts))))(he:me ρ=.ok (.fr ys) \/ me ρ=.ok (.sh (.lst ys)))(hl:ts.length+ys.length<=lim):dH i aI me ρ=.nx (ρ.set i (some (.tr io (.ol (ts++ys.map .sh))))):=by
 unfold dH tq;rw[h]
 rcases he with he|he<;>simp only[aI,OV.get_nil,he,fu,hl,if_true,OV.kQ]
theorem aY{m n:ag->OS}{ρ ρ':ag}(h:m ρ=.nx ρ'):aG m n ρ=n ρ':=by unfold aG;rw[h];rfl
theorem LA{m n:ag->OS}{ρ ρ':ag}{v:RV}(h:m ρ=.rt ρ' v):aG m n ρ=.rt ρ' v:=by unfold aG;rw[h];rfl
theorem p6(ρ:ag):aO ρ=.nx ρ:=rfl
theorem Fz{c:ag->OT}{a b:ag->OS}{ρ:ag}(h:c ρ=.ok true):bb c a b ρ=a ρ:=by unfold bb;rw[h];rfl
theorem Bx{c:ag->OT}{a b:ag->OS}{ρ:ag}(h:c ρ=.ok false):bb c a b ρ=b ρ:=by unfold bb;rw[h];rfl
theorem p5{f:List PV->OE}{x y:PV}{r:RV}(h:f [x,y]=.ok r)(hr:∀ xs,r≠.al xs):aZ (br f (ak (ao 0) (ak (ao 1) aJ))) [some (.sh x),some (.sh y)]=.rt [some (.sh x),some (.sh y)] r:=by
 cases r with
 |al xs=>exact absurd rfl (hr xs)
 |sh z=>simp[h]
 |fr z=>simp[h]
theorem CT{f:List PV->OE}{x y:PV}{r:RV}(h:f [y]=.ok r)(hr:∀ xs,r≠.al xs):aZ (br f (ak (ao 1) aJ)) [some (.sh x),some (.sh y)]=.rt [some (.sh x),some (.sh y)] r:=by
 cases r with
 |al xs=>exact absurd rfl (hr xs)
 |sh z=>simp[h]
 |fr z=>simp[h]
theorem Ku{ρ:ag}{r:RV}(hr:∀ xs,r≠.al xs):fin (.rt ρ r)=.ok r:=by
 cases r with
 |al xs=>exact absurd rfl (hr xs)
 |sh z=>rfl
 |fr z=>rfl
theorem sk{c:ag->OT}{a n:ag->OS}{ρ:ag}(h:c ρ=.ok false):aG (bb c a aO) n ρ=n ρ:=aY (Eq.trans (Bx h) (p6 _))
theorem st{c:ag->OT}{a b n:ag->OS}{ρ ρ':ag}{r:RV}(h:c ρ=.ok true)(k:a ρ=.rt ρ' r):aG (bb c a b) n ρ=.rt ρ' r:=LA (Eq.trans (Fz h) k)
theorem ku{X:OS}{ρ:ag}{x:PV}(h:X=.rt ρ (.sh x)):fin X=.ok (.sh x):=by rw[h];rfl
def tD(kvs:List (Str×PV))(a b:RV):OE:=match a.pv,b with
 |.str n,.sh x=>.ok (.sh ((kvs.lookup n).getD x))
 |_,_=>.bad
def BA(kvs:List (Str×PV))(ma mb:ag->OE):ag->OE:=fun ρ=>(ma ρ).bind fun a=>(mb ρ).bind fun b=>tD kvs a b
@[simp] theorem LM(kvs:List (Str×PV))(ma mb:ag->OE)(ρ:ag):BA kvs ma mb ρ=(ma ρ).bind fun a=>(mb ρ).bind fun b=>tD kvs a b:=rfl
def oQ(i:Nat)(mp:MP)(me:ag->OE):ag->OS:=fun ρ=>tq i mp ρ fun u put=>match u with
 | .ol ts=>(me ρ).cW ρ fun r=>(match r with
   |.sh (.tup ys)=>if ts.length+ys.length<=lim then .nx (put (.ol (ts++ys.map .sh)))else .bad
   |_=>.bad)
 |_=>.bad
theorem DZ{ρ:ag}{i:Nat}{io:Bool}{ts:List OV}{ys:List PV}{me:ag->OE}(h:ρ[i]?=some (some (.tr io (.ol ts))))(he:me ρ=.ok (.sh (.tup ys)))(hl:ts.length+ys.length<=lim):oQ i aI me ρ=.nx (ρ.set i (some (.tr io (.ol (ts++ys.map .sh))))):=by
 unfold oQ tq;rw[h];simp only[aI,OV.get_nil,he,fu,hl,if_true,OV.kQ]
def sF(i:Nat):ag->OS:=fun ρ=>match ρ[i]? with
 |some (some (.ow xs))=>.nx (ρ.set i (some (.ow xs.reverse)))
 |_=>.bad
end L2.P
namespace L2.E
open PySem PySem.Spec PyProof.Rows L2
def LR(w:World)(p:Str×V)(e:DictEntry):Prop:=e.hash=hashStr w p.1 /\ (∃ t,e.key=.str p.1 t) /\ RelV p.2 e.val
def DKT(w:World)(K:PySem.W.Frag)(d:Addr)(kvs:List (Str×V)):Prop:=(d==sysModules)=false /\ (kvs.map (·.1)).Nodup /\ ∃(es:List DictEntry) (ep:Nat),K.lookup d=some ⟨.type "dict",none,.dict es.toArray ep,#[]⟩ /\ Paired (LR w) kvs es
theorem w9{prog:Program}{w:World}:∀{kvs:List (Str×V)} {es:List DictEntry},Paired (LR w) kvs es ->
  ∃ us:List (Str×Value),us.map (·.1)=kvs.map (·.1) /\ Pairs (strKind prog w) es us /\ (∀ e∈es,∃ k,(strKind prog w).is k e.key=true /\ e.hash=(strKind prog w).hash k) /\
    ∀ n,match kvs.lookup n with
      |some v=>∃ u,valueAt us n=some u /\ RelV v u
      |none=>valueAt us n=none
 |_,_,.nil=>⟨[],rfl,.nil,fun e he=>(nomatch he),fun n=>rfl⟩
 | (n,v) ::kvs,e ::es,.cons h t=>by
   obtain⟨us,h1,h2,h3,h4⟩:=w9 (prog:=prog) (w:=w) t;obtain⟨k1,⟨tk,k2⟩,k3⟩:=h
   have hk:(strKind prog w).is n e.key=true:=by rw[k2];show Value.isStrOf n (.str n tk)=true;simp[Value.isStrOf]
   refine⟨(n,e.val) ::us,by simp[h1],.cons hk rfl h2,fun e' he'=>?_,fun m=>?_⟩
   . rcases List.mem_cons.mp he' with z|z
     . subst z;exact⟨n,hk,k1⟩
     . exact h3 e' z
   . have:=h4 m
     by_cases hm:m=n
     . subst hm;simp[List.lookup,valueAt];exact k3
     . have hb:(m==n)=false:=by simpa using hm
       have hn:¬ n=m:=fun z=>hm z.symm
       simp only[List.lookup,hb]
       unfold valueAt at this ⊢
       simp only[List.find?_cons,hn,decide_false];exact this
theorem DKT.at{X:Cx}{pins:List (Addr×Obj)}{σ:St}{H:Hp}{s:Shared}{d:Addr}{kvs:List (Str×V)}(D:DKT X.w X.K d kvs)(I:Inv X pins σ H s):
  ∃ us:List (Str × Value),s.heap.DictOf (strKind X.prog X.w) d us /\ ∀ n,match kvs.lookup n with
     |some v=>∃ u,valueAt us n=some u /\ RelV v u
     |none=>valueAt us n=none:=by
 obtain⟨_,nd,es,ep,hk,pr⟩:=D;obtain⟨us,h1,h2,h3,h4⟩:=w9 (prog:=X.prog) (w:=X.w) pr
 exact⟨us,⟨_,es.toArray,ep,I.kIn d _ hk,⟨rfl,rfl,rfl⟩,rfl,fun e he=>h3 e (by simpa using he),by simpa using h2,by rw[h1];exact nd⟩,h4⟩
section
variable{X:Cx}
def EV(w:World)(K:PySem.W.Frag)(td te tf:TE):TE:=fun σ H Q=>td σ H fun x H1=>∃ d kvs,x=.ref d /\ DKT w K d kvs /\ te σ H1 fun y H2=>tf σ H2 fun z H3=>∃ n,y=.str n /\ Q ((kvs.lookup n).getD z) H3
theorem Gi{o e f:Expr}{td te tf:TE}{apos cpos:Pos}(ho:QE X o td)(he:QE X e te)(hf:QE X f tf)(hbase:attributeBase o "get" X.env (eval o X.env)=eval o X.env:=by rfl)
  (few:((backTo cpos (starEach [e,f] X.env)).all (fun x=>!x.1)&&(backToKw cpos (keywordEach [] X.env)).all (fun x=>x.1.isSome)&&decide (([e,f]:List Expr).length+([]:List Keyword).length+(if([]:List Keyword).isEmpty then 0 else 1)<30))=true:=by rfl)
  (line:(apos.endLine==cpos.line)=true:=by rfl) (trees:backTo cpos (starEach [e,f] X.env)=[(false,eval e X.env),(false,eval f X.env)]:=by rfl):QE X (.Call (.Attribute o "get" apos) [e,f] [] cpos) (EV X.w X.K td te tf):=⟨by
 intro pins s σ H Q I h;refine wpAny_Call_method hbase few line PySem.F.plainAttrs_dict PySem.F.slot_dict_get PySem.F.type_dict_get (thn (ho.out pins s σ H _ I h) fun u s1 ⟨x,H1,I1,rx,d,kvs,ex,D,q1⟩=>?_);subst ex
 obtain rfl:u=Value.ref d:=rx
 obtain⟨us,dd,hv⟩:=D.at I1;obtain⟨_,nd,es,ep,hk,pr⟩:=id D
 refine⟨dd.typeIs,fun b hb=>by cases hb;exact⟨_,I1.kIn d _ hk,rfl⟩,?_⟩
 rw[trees];refine Calls.callWith_builtin rfl (Calls.evalArgs_plain (Calls.spliced_cons (thn (he.out pins s1 σ H1 _ I1 q1) fun iv s2 ⟨y,H2,I2,ry,q2⟩=>Calls.spliced_cons (thn (hf.out pins s2 σ H2 _ I2 q2) fun fv s3 ⟨z,H3,I3,rz,n,ey,q3⟩=>Calls.spliced_nil ?_))));subst ey;obtain⟨t,rfl⟩:=ry;obtain⟨us2,dd2,hv2⟩:=D.at I3;refine call_meetsIn PySem.F.slot_dict_get dd2.typeIs PySem.F.entry_dict_get (PySem.F.args_dict_get_3 _ _ _) (meets_dict_get_default (strKind X.prog X.w) d (k:=n) (key:=.str n t) (by show Value.isStrOf n (.str n t)=true;simp[Value.isStrOf]) D.1 fv) ⟨_,dd2.mapOf,_,H3,I3.tok _,?_,q3⟩;have h2:=hv2 n
 cases q:kvs.lookup n with
 |none=>rw[q]at h2;rw[h2];exact rz
 |some v=>rw[q]at h2;obtain⟨u,e,r⟩:=h2;rw[e];exact r⟩
end
end L2.E
namespace L2.P
open PySem PySem.Spec PyProof.Rows L2 L2.E
section
variable{K:PySem.W.Frag}{cls:String->Option Addr}{W:XW}{Av G S₀ S S' H H' B B':Hp}{ρ:ag}{σ:St}{Q:VK}
def DTP(w:World)(K:PySem.W.Frag)(d:Addr)(kvs:List (Str×PV)):Prop:=∃ us,DKT w K d us /\ Paired (fun (p:Str×PV) (q:Str×V)=>p.1=q.1 /\ ∀ S,Rep K S p.2 q.2) kvs us
theorem DTP.look{d:Addr}:∀{kvs:List (Str×PV)} {us:List (Str×V)},Paired (fun (p:Str×PV) (q:Str×V)=>p.1=q.1 /\ ∀ S,Rep K S p.2 q.2) kvs us->∀ n,match kvs.lookup n with
  |some x=>∃ v,us.lookup n=some v /\ ∀ S,Rep K S x v
  |none=>us.lookup n=none
 |_,_,.nil,n=>rfl
 | (k,x) ::kvs,(k',v) ::us,.cons h t,n=>by
   obtain⟨rfl,hr⟩:=h;have:=DTP.look (d:=d) t n
   by_cases hm:n=k
   . subst hm;simp[List.lookup];exact hr
   . have hb:(n==k)=false:=by simpa using hm
     simp only[List.lookup,hb];exact this
theorem Ed{w:World}{d:Addr}{kvs:List (Str×PV)}{ta tb:TE}{ma mb:ag->OE}(D:DTP w K d kvs)(ha:JE K cls W ta ma)(hb:JE K cls W tb mb):JE K cls W (EV w K (tC (.ref d)) ta tb) (BA kvs ma mb):=by
 intro Av G S₀ ρ σ S H Q I p;obtain⟨us,D1,pr⟩:=D
 refine⟨d,us,rfl,D1,?_⟩
 refine ha.go I p fun a v S1 H1 I1 w1 r1 p1=>hb.go I1 p1 fun b u S2 H2 I2 w2 r2 p2=>?_
 have ra:=(r1.rd I1.sh).mono w2.s w2.g
 cases e:a.pv with
 | str n=>
   rw[e]at ra;have:=DTP.look (d:=d) pr n
   cases b with
   |fr xs=>unfold tD at p2;rw[e]at p2;exact p2.elim
   |al xs=>unfold tD at p2;rw[e]at p2;exact p2.elim
   | sh x=>
     unfold tD at p2;rw[e]at p2
     refine⟨n,jg ra,?_⟩
     cases q:kvs.lookup n with
     | none=>
       simp only[q]at p2 this;rw[this];exact p2 _ S2 H2 (bq.refl I2.sh) r2
     | some y=>
       simp only[q]at p2 this;obtain⟨u,eu,hr⟩:=this;rw[eu];exact p2 _ S2 H2 (bq.refl I2.sh) (hr S2)
 |_=>unfold tD at p2;rw[e]at p2;exact p2.elim
end
end L2.P
namespace L2.E
open PySem PySem.Spec PyProof.Rows L2
theorem ym(l:Addr)(items:Array Value)(n:Nat)(b:Addr)(items2:Array Value)(n2:Nat)(dd2:Option Addr)(sl2:Array (Option Value))(hc0:¬(!items.isEmpty&&Builtin.List.listTooLong (items.size+items2.size))=true)(hc1:items.size<=sizeLine)(hs2:items.size+items2.size<=sizeLine+1):
  Meets (Builtin.«list.extend» ⟨[.ref l,.ref b],[]⟩) (fun _ R s=>s.heap.get? l=some { cls:=.type "list",dict:=none,data:=.seq items n,slots:=#[] } /\ s.heap.get? b=some { cls:=.type "tuple",dict:=dd2,data:=.seq items2 n2,slots:=sl2 } /\ R (.ok (.ret Value.none)) { s with heap:=s.heap.update l (Obj.mapSeq fun x=>x++items2),toks:=s.toks }):=
 .of_wp fun prog w A R s h=>by
  obtain⟨hp,g,d,tk,os⟩:=s;obtain⟨hl,hb,h⟩:=h;have f1:=AutoSeq1.idx_int;have f2:=AutoSeq1.sub_tuple_tuple;have f3:=AutoSeq1.sub_list_list;have f4:=AutoSeq1.sub_tuple_list;have f5:=AutoSeq1.sub_list_tuple
  have hz':(items++items2).size<=sizeLine+1:=by rw[Array.size_append];exact hs2
  wp_walk using (wpAny_updateSeq hl rfl (hz:=hc1) (_hz':=hz')),wpAny_loadPart' hl,wpAny_loadPart' hb;exact⟨_,rfl,h⟩
theorem Mp{K:PySem.W.Frag}{H H':Hp}{a:Addr}{xs:List V}(e:aK H H')(h:SqT K H a xs):SqT K H' a xs:=by
 rcases h with(h|⟨o,h⟩)|h
 . exact .inl (.inl (e _ _ h))
 . exact .inl (.inr ⟨o,e _ _ h⟩)
 . exact .inr h
def zS(K:PySem.W.Frag):V->List V->Hp->VK->Prop:=fun x vs H Q=>∃ l b xs zs,x=.ref l /\ vs=[.ref b] /\ H l=some (.lst xs) /\ SqT K H b zs /\ xs.length+zs.length<=sizeLine /\ Q .non (upd H l (.lst (xs++zs)))
theorem AL{X:Cx}:MtM X "list.extend" (zS X.K):=by
 intro pins s σ H x vs v us Q I rx rv h;obtain⟨l,b,xs,zs,rfl,rfl,hH,hB,hz,q⟩:=h;cases rx;obtain⟨u,rfl,ru⟩:=rv.one;cases ru;obtain⟨z,its,n,r,hl,e⟩:=I.Gd hH;obtain⟨its2,r2,pl2,z2⟩:=I.tuple hB;obtain⟨⟨cls2,dd2,data2,sl2⟩,ho2,hc2,n2,hd2⟩:=pl2;simp only at hc2 hd2;subst hc2 hd2;have hl2:=r2.length
 have hsz:its.toArray.size+its2.toArray.size<=sizeLine:=by rw[List.size_toArray,List.size_toArray];omega
 have hlong:¬ (!its.toArray.isEmpty&&Builtin.List.listTooLong (its.toArray.size+its2.toArray.size))=true:=by
  rw[zL hsz,Bool.and_false];exact Bool.false_ne_true
 refine call_meets F.slot_list_extend ⟨_,e,rfl⟩ F.entry_list_extend (F.args_list_extend_2 _ _)
  (ym l its.toArray n b its2.toArray n2 dd2 sl2 hlong (by rw[List.size_toArray];omega) (by omega)) ⟨e,ho2,?_⟩
 refine⟨.non,_,I.EL (its':=its++its2) hH e (by simp) (r.append r2) ?_,rfl,q⟩
 rw[List.length_append];omega
end L2.E
namespace L2.P
open PySem PySem.Spec PyProof.Rows L2 L2.E
section
variable{K:PySem.W.Frag}{cls:String->Option Addr}{W:XW}{Av G S₀ S S' H H' B B':Hp}{ρ:ag}{σ:St}{Q:VK}{F:Nat->List Addr}
theorem Bi{i:Nat}{te tx:TE}{mp:MP}{me:ag->OE}(hp:JP K cls te i mp)(hx:JE K cls W tx me):JS K cls W (sT (tBM K "list" (zS K) te (iY tx kL))) (oQ i mp me):=by
 intro Av G S₀ ρ σ S H D I p;obtain⟨io,t,π,u,hi,e0,e1,p⟩:=pW p;obtain⟨v0,hv⟩:=I.val hi
 cases u with
 |sh x=>exact p.elim
 |ob c ks us=>exact p.elim
 |di x=>exact p.elim
 |dt x=>exact p.elim
 | ol ts=>
   dsimp only at p
   refine hp.at I hi hv e0 e1 fun w S1 H1 w1 I1 wk=>?_
   have p1:=p.back w1.s;obtain⟨F,J1⟩:=id I1;obtain⟨q,vs,ff,rest,wk',hq,hl,rs,_,nd,c⟩:=J1.rV hi hv e1;have:=wk.inj wk';subst this
   refine⟨.inl ⟨rfl,_,SqL.new hq⟩,?_⟩
   refine hx.goS I1 p1 fun r v S2 H2 I2 w2 r2 p2=>?_
   have ndf:ff.Nodup:=(List.nodup_cons.mp (List.nodup_append.mp nd).1).2
   cases r with
   |al ys=>exact p2.elim
   |fr ys=>exact p2.elim
   | sh x=>
     cases x with
     | tup ys=>
       dsimp only at p2
       split at p2
       . rename_i hlt
         have r3:Rep K S2 (.tup ys) v:=r2
         unfold Rep at r3;obtain⟨b,us,rfl,k3,k4⟩:=r3
         refine⟨q,b,vs,us,rfl,rfl,w2.g _ _ hq,Mp w2.sh k3,by rw[hl,k4.length];exact hlt,?_⟩
         obtain⟨g,J3,_⟩:=c S2 H2 (ts++ys.map .sh) (vs++us) (ff++[]) w2 ((rs.mono w2.s fun a _ o h=>w2.g _ _ h).append (.shs k4)) (by rw[List.append_nil];exact ndf) fun a ha=>.inl (by simpa using ha)
         exact p2 σ S2 _ ⟨_,J3⟩ (aK.refl _)
       . exact p2.elim
     |_=>exact p2.elim
theorem Be{i:Nat}:JS K cls W (sT (Gu K "list" y6 (zd i))) (sF i):=by
 intro Av G S₀ ρ σ S H D I p;unfold sF at p;split at p
 . rename_i xs e;obtain⟨v,e1,a,vs,rfl,h1,h2,h3,h4⟩:=I.good i _ e
   refine⟨_,e1,.inl ⟨rfl,_,SqL.new h3⟩,?_⟩
   exact⟨a,vs,rfl,rfl,h3,p σ S _ (I.mut e e1 h4.reverse) (aK.refl _)⟩
 . exact p.elim
end
end L2.P
namespace L2.E
open PySem PySem.Spec PyProof.Rows L2
end L2.E
namespace L2.P
open PySem PySem.Spec PyProof.Rows L2 L2.E
end L2.P
namespace L2.P
open PySem PySem.Spec PyProof.Rows L2 L2.E PySem.SeqAt
end L2.P
namespace L2.P
open PySem
def ins(n:Int):List Int->List Int
 |[]=>[n]
 |m ::ms=>if n<=m then n ::m ::ms else m ::ins n ms
end L2.P
namespace L2
open PySem PySem.Spec PyProof.Rows PySem.W
end L2
namespace L2.E
open PySem PySem.Spec PyProof.Rows L2
end L2.E
namespace L2.P
open PySem PySem.Spec PyProof.Rows L2 L2.E
section
variable{K:PySem.W.Frag}{cls:String->Option Addr}{W:XW}{Av G S₀ S S' H H' B B':Hp}{ρ:ag}{σ:St}{Q:VK}{F:Nat->List Addr}
theorem tR.u4{n:Int}{x:PV}{v:V}(hx:Rep K S x v):∀{kvs:List (Int×PV)} {us:List (Key×V)},tR K S kvs us->tR K S (kvs++[(n,x)]) (us++[(Sum.inl n,v)])
 |_,_,.nil=>.cons ⟨rfl,hx⟩ .nil
 |_ ::_,_ ::_,.cons h t=>.cons h (tR.u4 hx t)
end
end L2.P
namespace PG
def mK(n:Int):Bool:=(decide (0<=n)&&decide (n<55296))||(decide (57343<n)&&decide (n<=1114111))
def bD(n:Int):List Int:=if n<128 then[n]else if n<2048 then[192+n/64,128+n%64]else if n<65536 then[224+n/4096,128+n/64%64,128+n%64]else[240+n/262144,128+n/4096%64,128+n/64%64,128+n%64]
def cell(ns:List Int)(k:Int):Int:=if ns=[]then 0 else ns.getD (k%(ns.length:Int)).toNat 0
def mix(ns:List Int)(k:Int):Int:=
 let a:=(cell ns k+104729*(k+1))%4294967291
 let b:=a*48271%4294967279
 (b/64*69621+b)%4294967231
def menu:List Int:=[34,92,47,8,12,10,13,9,0,31,127]
def point(n:Int):Int:=
 if n%8<2 then 32+n/8%95 else if n%8<4 then menu.getD (n/8%11).toNat 0 else if n%8=4 then 128+n/8%1920
 else if n%8=5 then 2048+n/8%53248 else if n%8=6 then 57344+n/8%8192 else 65536+n/8%1048576
def vG(ns:List Int)(k:Int):Int:=if mix ns k/5%8=3 then mix ns k/40%14 else mix ns k%5
def points(ns:List Int)(k:Int):List Int:=(List.range (vG ns k).toNat).map fun j:Nat=>point (mix ns (k+1+(j:Int)))
theorem Bj(ns:List Int)(k:Int):0<=mix ns k /\ mix ns k<4294967231:=by unfold mix;dsimp only;omega
theorem zm(ns:List Int)(k:Int):0<=vG ns k /\ vG ns k<14:=by
 have:=Bj ns k
 unfold vG;split<;>omega
theorem GV(i:Nat)(h:i<11):0<=menu.getD i 0 /\ menu.getD i 0<128:=by
 revert h;revert i;decide
theorem Ez(n:Int):mK (point n)=true:=by
 unfold point mK;have h11:=GV (n/8%11).toNat (by omega);simp only[Bool.or_eq_true,Bool.and_eq_true,decide_eq_true_eq];split
 . omega
 . split
   . omega
   . split
     . omega
     . split
       . omega
       . split<;>omega
theorem p8(ns:List Int)(k:Int):(points ns k).all mK=true:=by
 rw[List.all_eq_true];intro x hx;unfold points at hx;obtain⟨j,_,rfl⟩:=List.mem_map.mp hx;exact Ez _
theorem qW(ns:List Int)(k:Int):(points ns k).length<14:=by
 have:=zm ns k;unfold points;rw[List.length_map,List.length_range];omega
end PG
namespace PG
def NI(b:Int):Int×Int:=if b=224 then(160,191)else if b=237 then(128,159)else(128,191)
def NW(b:Int):Int×Int:=if b=240 then(144,191)else if b=244 then(128,143)else(128,191)
def spans(b:Int):Option (List (Int×Int)):=if 0<=b /\ b<128 then some []else if 194<=b /\ b<224 then some [(128,191)]else if 224<=b /\ b<240 then some [NI b,(128,191)]else if 240<=b /\ b<245 then some [NW b,(128,191),(128,191)]else none
def mark(k:Nat):Int:=[0,192,224,240].getD k 0
def val(b:Int)(cs:List Int):Int:=cs.foldl (fun n c=>n*64+c - 128) (b - mark cs.length)
theorem rA{n:Int}(h:mK n=true):0<=n /\ n<=1114111:=by
 unfold mK at h;simp only[Bool.or_eq_true,Bool.and_eq_true,decide_eq_true_eq]at h;omega
end PG
namespace L2.P
open PySem
@[simp] theorem ID(s:String):(Str.ofString s).cps.all (·<0x110000)=true:=by
  rw[Str.ofString_eq_toList,List.all_toArray,List.all_map];rw[List.all_eq_true];intro c _;have:=c.valid;simp only[Function.comp,decide_eq_true_eq]
  rcases this with h|⟨_,h⟩
  . exact Nat.lt_of_lt_of_le h (by decide)
  . exact h
theorem toNat_inj:∀(xs ys:List Char),xs.map Char.toNat=ys.map Char.toNat->xs=ys
 |[],[],_=>rfl
 |[],_ ::_,h=>by cases h
 |_ ::_,[],h=>by cases h
 | x ::xs,y ::ys,h=>by
   rw[List.map_cons,List.map_cons]at h
   injection h with h1 h2
   have:x=y:=Char.ext (UInt32.toNat_inj.mp h1)
   rw[this,toNat_inj xs ys h2]
theorem aH(a b:String):Str.ofString a=Str.ofString b↔a=b:=by
 constructor
 . intro h;rw[Str.ofString_eq_toList,Str.ofString_eq_toList]at h
   injection h with h
   have h2:a.toList.map Char.toNat=b.toList.map Char.toNat:=by
    have:=congrArg Array.toList h
    simpa using this
   exact String.toList_inj.mp (toNat_inj _ _ h2)
 . intro h;rw[h]
@[simp] theorem Ic(a b:String):(Str.ofString a==Str.ofString b)=decide (a=b):=by
  by_cases h:a=b
  . subst h;simp
  . have:Str.ofString a≠Str.ofString b:=fun z=>h ((aH a b).mp z)
    simp[h,this]
@[simp] theorem ML(a b:String):kz (.str (Str.ofString a)) (.str (Str.ofString b))=decide (a=b):=by simp[kz]
theorem vT{i:Nat}{mb:ag->OS}{x:PV}{xs:List PV}{ρ ρ':ag}(h:mb (ρ.set i (some (.sh x)))=.nx ρ'):gR i mb (x ::xs) ρ=gR i mb xs ρ':=by rw[jM,h];rfl
@[simp] theorem get_nil(t:OV):t.get []=some t:=by cases t<;>rfl
@[simp] theorem kQ(t u:OV):t.put [] u=u:=by cases t<;>rfl
theorem GA(xs:List PV):uG (xs.map .sh)=some xs:=by
 induction xs with
 |nil=>rfl
 |cons x xs ih=>show(pvO (.sh x)).bind _=_;simp[pvO,ih]
end L2.P
namespace PG
open L2.P PySem
inductive It where
 |sp (lo hi:Int)|bg|value|lead|figures|fraction|exponent|sign|text|escape|code|coded|hex|hexd|hexcf|row|mrow|fields|mfields|name
 deriving DecidableEq
def bt:It->PV
 |.sp lo hi=>.tup [.int lo,.int hi]
 |.bg=>.str "white" | .value=>.str "value" | .lead=>.str "lead" | .figures=>.str "figures" | .fraction=>.str "fraction" | .exponent=>.str "exponent" | .sign=>.str "sign"
 |.text=>.str "text" | .escape=>.str "escape" | .code=>.str "code" | .coded=>.str "code d" | .hex=>.str "hex" | .hexd=>.str "hex d" | .hexcf=>.str "hex c to f"
 |.row=>.str "row" | .mrow=>.str "more row" | .fields=>.str "fields" | .mfields=>.str "more fields" | .name=>.str "name"
def loose:It->Bool
 |.bg=>true|.figures=>true|.fraction=>true|.exponent=>true|.sign=>true
 |_=>false
def opn:It->Bool
 |.row=>true|.mrow=>true|.fields=>true|.mfields=>true
 |_=>false
def wht(b:Int):Bool:=decide (9=b)||(decide (10=b)||(decide (13=b)||decide (32=b)))
def fig(b:Int):Bool:=decide (48<=b)&&decide (b<=57)
def ee(b:Int):Option Int:=if 48<=b /\ b<=57 then some (b - 48)else if 65<=b /\ b<=70 then some (b - 55)else if 97<=b /\ b<=102 then some (b - 87)else none
def kG(b:Int):Option (List It):=if b=48 then some [.fraction,.exponent]else if 48<=b /\ b<=57 then some [.figures,.fraction,.exponent]else none
def jm(b:Int):Option (List It):=
 if b=91 then some [.bg,.row]else if b=123 then some [.bg,.fields]else if b=34 then some [.text]else if b=45 then some [.lead]
 else if b=110 then some [.sp 117 117,.sp 108 108,.sp 108 108]else if b=116 then some [.sp 114 114,.sp 117 117,.sp 101 101]else if b=102 then some [.sp 97 97,.sp 108 108,.sp 115 115,.sp 101 101]
 else kG b
def qq:List It:=[.bg,.sp 58 58,.bg,.value,.bg,.mfields]
def tls(b:Int):Option (List It):=
 if 0<=b /\ b<128 then some []else if 194<=b /\ b<224 then some [.sp 128 191]
 else if 224<=b /\ b<240 then some [if b=224 then .sp 160 191 else if b=237 then .sp 128 159 else .sp 128 191,.sp 128 191]
 else if 240<=b /\ b<245 then some [if b=240 then .sp 144 191 else if b=244 then .sp 128 143 else .sp 128 191,.sp 128 191,.sp 128 191]
 else none
def rK(b:Int):Option (List It):=if b=34 then some []else if b=92 then some [.escape,.text]else if b<32 then none else(tls b).map (·++[.text])
def x9(b:Int):Bool:=b=34||b=92||b=47||b=98||b=102||b=110||b=114||b=116
def Dr(b:Int):Option (List It):=if b=117 then some [.code]else if x9 b then some []else none
def yk(w:Int):Option (List It):=if w<8 then some [.hex,.hex]else if w<12 then some [.hex,.hex,.sp 92 92,.sp 117 117,.hexd,.hexcf,.hex,.hex]else none
def bh:It->Int->Option (List It)
 |.sp lo hi,b=>if lo<=b /\ b<=hi then some []else none
 |.bg,b=>if wht b then some [.bg]else none
 |.value,b=>jm b
 |.lead,b=>kG b
 |.figures,b=>if 48<=b /\ b<=57 then some [.figures]else none
 |.fraction,b=>if b=46 then some [.sp 48 57,.figures]else none
 |.exponent,b=>if b=101 \/ b=69 then some [.sign,.sp 48 57,.figures]else none
 |.sign,b=>if b=43 \/ b=45 then some []else none
 |.text,b=>rK b
 |.escape,b=>Dr b
 |.code,b=>(ee b).bind fun w=>if w=13 then some [.coded]else some [.hex,.hex,.hex]
 |.coded,b=>(ee b).bind yk
 |.hex,b=>(ee b).map fun _=>[]
 |.hexd,b=>(ee b).bind fun w=>if w=13 then some []else none
 |.hexcf,b=>(ee b).bind fun w=>if 12<=w then some []else none
 |.row,b=>if b=93 then some []else(jm b).map (·++[.bg,.mrow])
 |.mrow,b=>if b=44 then some [.bg,.value,.bg,.mrow]else if b=93 then some []else none
 |.fields,b=>if b=125 then some []else if b=34 then some (.text ::qq)else none
 |.mfields,b=>if b=44 then some (.bg ::.name ::qq)else if b=125 then some []else none
 |.name,b=>if b=34 then some [.text]else none
def cnt(st:List It):Nat:=(st.filter opn).length
def gon:List It->Int->List It×Bool
 |[],_=>([],false)
 | it ::st,b=>match bh it b with
   |some l=>(l++st,decide (cnt (l++st)<=64))
   |none=>if loose it then gon st b else(st,false)
def tk:List It->List Int->List It×Nat
 |st,[]=>(st,0)
 |st,b ::r=>if(gon st b).2 then((tk (gon st b).1 r).1,(tk (gon st b).1 r).2+1)else((gon st b).1,0)
def st0:List It:=[.bg,.value,.bg]
def flt(row:List Int):Option Nat:=if(tk st0 row).2=row.length /\ (tk st0 row).1.all loose=true then none else some (tk st0 row).2
def wk(st:List It):OV:=.ob "Walk" ["coming"] [.ol ((st.reverse.map bt).map .sh)]
theorem E1(it:It)(b:Int)(l:List It)(h:bh it b=some l):l.length<=8:=by
 have hv:∀ l,jm b=some l->l.length<=5:=by
  intro l h;unfold jm kG at h
  repeat' split at h
  all_goals(first|(cases h;done)|(injection h with h;subst h;decide))
 have ht:∀ l,tls b=some l->l.length<=5:=by
  intro l h;unfold tls at h
  repeat' split at h
  all_goals(first|(cases h;done)|(injection h with h;subst h;simp))
 cases it with
 |value=>exact Nat.le_trans (hv l h) (by decide)
 | row=>
   simp only[bh]at h;split at h
   . injection h with h;subst h;decide
   . cases e:jm b with
     |none=>rw[e]at h;cases h
     |some l'=>rw[e]at h;injection h with h;subst h;have:=hv l' e;simp;omega
 | text=>
   simp only[bh,rK]at h
   repeat' split at h
   all_goals first|(cases h;done)|(injection h with h;subst h;decide)|skip
   cases e:tls b with
   |none=>rw[e]at h;cases h
   |some l'=>rw[e]at h;injection h with h;subst h;have:=ht l' e;simp;omega
 | code=>
   simp only[bh]at h
   cases e:ee b with
   |none=>rw[e]at h;cases h
   |some w=>rw[e]at h;simp only[Option.bind_some]at h;split at h<;>(injection h with h;subst h;decide)
 | coded=>
   simp only[bh]at h
   cases e:ee b with
   |none=>rw[e]at h;cases h
   | some w=>
     rw[e]at h;simp only[Option.bind_some,yk]at h
     repeat' split at h
     all_goals first|(cases h;done)|(injection h with h;subst h;decide)
 | hex=>
   simp only[bh]at h
   cases e:ee b with
   |none=>rw[e]at h;cases h
   |some w=>rw[e]at h;injection h with h;subst h;simp
 | hexd=>
   simp only[bh]at h
   cases e:ee b with
   |none=>rw[e]at h;cases h
   |some w=>rw[e]at h;simp only[Option.bind_some]at h;split at h<;>first|(cases h;done)|(injection h with h;subst h;decide)
 | hexcf=>
   simp only[bh]at h
   cases e:ee b with
   |none=>rw[e]at h;cases h
   |some w=>rw[e]at h;simp only[Option.bind_some]at h;split at h<;>first|(cases h;done)|(injection h with h;subst h;decide)
 | _=>
   simp only[bh,kG,Dr,qq]at h
   repeat' split at h
   all_goals first|(cases h;done)|(injection h with h;subst h;decide)
theorem BI(st:List It)(b:Int):(gon st b).1.length<=st.length+8:=by
 induction st with
 |nil=>simp[gon]
 | cons it st ih=>
   unfold gon
   cases e:bh it b with
   |some l=>have:=E1 it b l e;simp;omega
   | none=>
     dsimp only;split
     . simp;omega
     . simp;omega
end PG
namespace PG
inductive Sg where
 |pl (p:Int)|sh (c p:Int)|hx (a b c d:Int)|pr (a b c d e f g h:Int)
def pts:Sg->List Int
 |.pl p=>[p]
 |.sh c _=>[92,c]
 |.hx a b c d=>[92,117,a,b,c,d]
 |.pr a b c d e f g h=>[92,117,a,b,c,d,92,117,e,f,g,h]
def hv(b:Int):Int:=(ee b).getD 0
def cod(a b c d:Int):Int:=16*(16*(16*hv a+hv b)+hv c)+hv d
def L9:Sg->Int
 |.pl p=>p
 |.sh _ p=>p
 |.hx a b c d=>cod a b c d
 |.pr a b c d e f g h=>65536+1024*(cod a b c d - 55296)+cod e f g h - 56320
def shP:List (Int×Int):=[(34,34),(92,92),(47,47),(98,8),(102,12),(110,10),(114,13),(116,9)]
def Sok:Sg->Prop
 |.pl p=>mK p=true /\ 32<=p /\ p≠34 /\ p≠92
 |.sh c p=>(c,p)∈shP
 |.hx a b c d=>(ee a).isSome=true /\ (ee b).isSome=true /\ (ee c).isSome=true /\ (ee d).isSome=true /\ ¬ (55296<=cod a b c d /\ cod a b c d<=57343)
 |.pr a b c d e f g h=>(ee a=some 13 /\ 8<=hv b /\ hv b<12 /\ (ee b).isSome=true /\ (ee c).isSome=true /\ (ee d).isSome=true) /\ ee e=some 13 /\ 12<=hv f /\ (ee f).isSome=true /\ (ee g).isSome=true /\ (ee h).isSome=true
def oK(s:Sg):List Int:=(pts s).flatMap bD
theorem lC{b w:Int}(h:ee b=some w):0<=w /\ w<16 /\ 48<=b /\ b<=102 /\ b≠92 /\ b≠117:=by
 unfold ee at h;split at h
 . injection h with h;omega
 . split at h
   . injection h with h;omega
   . split at h
     . injection h with h;omega
     . cases h
theorem m7{b w:Int}(h:ee b=some w):hv b=w:=by unfold hv;rw[h];rfl
theorem mz{n:Int}(h:n<128):bD n=[n]:=by unfold bD;rw[if_pos h]
theorem cnt_cons(it:It)(st:List It):cnt (it ::st)=(if opn it then 1 else 0)+cnt st:=by
 unfold cnt
 cases e:opn it<;>simp[e]
 omega
theorem Gk(l st:List It):cnt (l++st)=cnt l+cnt st:=by
 unfold cnt;rw[List.filter_append,List.length_append]
theorem Mj{st st':List It}{b:Int}{r:List Int}(h:gon st b=(st',true)):tk st (b ::r)=((tk st' r).1,(tk st' r).2+1):=by
 simp[tk,h]
theorem G6{it:It}{st l:List It}{b:Int}{r:List Int}(h:bh it b=some l)(hl:cnt l=0)(hc:cnt st<=64):tk (it ::st) (b ::r)=((tk (l++st) r).1,(tk (l++st) r).2+1):=by
 refine Mj ?_
 have:cnt (l++st)<=64:=by rw[Gk];omega
 simp[gon,h,this]
theorem G5{it:It}{st:List It}{b:Int}{r:List Int}(h:bh it b=none)(hl:loose it=true):tk (it ::st) (b ::r)=tk st (b ::r):=by
 simp[tk,gon,h,hl]
def Goes(st:List It)(bs:List Int)(st':List It):Prop:=∀ r,tk st (bs++r)=((tk st' r).1,(tk st' r).2+bs.length)
theorem Goes.nil(st:List It):Goes st [] st:=fun r=>by simp
theorem Goes.trans{a b c:List It}{xs ys:List Int}(h:Goes a xs b)(k:Goes b ys c):Goes a (xs++ys) c:=fun r=>by
 rw[List.append_assoc,h,k,List.length_append]
 congr 1
 omega
theorem Goes.step{it:It}{st l st':List It}{b:Int}{bs:List Int}(h:bh it b=some l)(hl:cnt l=0)(hc:cnt st<=64)(k:Goes (l++st) bs st'):Goes (it ::st) (b ::bs) st':=fun r=>by
 rw[List.cons_append,G6 h hl hc,k,List.length_cons]
 congr 1
theorem GB{p:Int}{st:List It}(h:mK p=true)(h1:32<=p)(h2:p≠34)(h3:p≠92)(hc:cnt st<=64):Goes (.text ::st) (bD p) (.text ::st):=by
 have hr:=rA h
 have hs:p<55296 \/ 57343<p:=by
  unfold mK at h;simp only[Bool.or_eq_true,Bool.and_eq_true,decide_eq_true_eq]at h;omega
 have hc1:cnt (.text ::st)<=64:=by rw[cnt_cons];simp[opn];omega
 have hsp:∀ lo hi:Int,cnt (.sp lo hi ::.text ::st)<=64:=fun lo hi=>by rw[cnt_cons,cnt_cons];simp[opn];omega
 have b1:∀ b:Int,b≠34->b≠92->¬ b<32->bh .text b=(tls b).map (·++[.text]):=fun b g1 g2 g3=>by simp only[bh,rK,g1,g2,g3,if_false]
 unfold bD
 by_cases c1:p<128
 . rw[if_pos c1];refine Goes.step (l:=[.text]) ?_ rfl hc (.nil _);rw[b1 p h2 h3 (by omega)];unfold tls;rw[if_pos ⟨by omega,c1⟩];rfl
 . rw[if_neg c1]
   by_cases c2:p<2048
   . rw[if_pos c2];refine Goes.step (l:=[.sp 128 191,.text]) ?_ rfl hc ?_
     . rw[b1 _ (by omega) (by omega) (by omega)];unfold tls;rw[if_neg (by omega),if_pos (by omega)];rfl
     . refine Goes.step (l:=[]) ?_ rfl hc1 (.nil _);simp only[bh];rw[if_pos (by omega)]
   . rw[if_neg c2]
     by_cases c3:p<65536
     . rw[if_pos c3];refine Goes.step (l:=[if 224+p/4096=224 then .sp 160 191 else if 224+p/4096=237 then .sp 128 159 else .sp 128 191,.sp 128 191,.text]) ?_ ?_ hc ?_
       . rw[b1 _ (by omega) (by omega) (by omega)];unfold tls;rw[if_neg (by omega),if_neg (by omega),if_pos (by omega)];rfl
       . split
         . rfl
         . split<;>rfl
       . refine Goes.step (l:=[]) ?_ rfl (hsp _ _) ?_
         . split
           . simp only[bh];rw[if_pos (by omega)]
           . split
             . simp only[bh];rw[if_pos (by omega)]
             . simp only[bh];rw[if_pos (by omega)]
         . refine Goes.step (l:=[]) ?_ rfl hc1 (.nil _);simp only[bh];rw[if_pos (by omega)]
     . rw[if_neg c3]
       have hsp2:cnt (.sp 128 191 ::.sp 128 191 ::.text ::st)<=64:=by rw[cnt_cons,cnt_cons,cnt_cons];simp[opn];omega
       refine Goes.step (l:=[if 240+p/262144=240 then .sp 144 191 else if 240+p/262144=244 then .sp 128 143 else .sp 128 191,.sp 128 191,.sp 128 191,.text]) ?_ ?_ hc ?_
       . rw[b1 _ (by omega) (by omega) (by omega)];unfold tls;rw[if_neg (by omega),if_neg (by omega),if_neg (by omega),if_pos (by omega)];rfl
       . split
         . rfl
         . split<;>rfl
       . refine Goes.step (l:=[]) ?_ rfl hsp2 ?_
         . split
           . simp only[bh];rw[if_pos (by omega)]
           . split
             . simp only[bh];rw[if_pos (by omega)]
             . simp only[bh];rw[if_pos (by omega)]
         . refine Goes.step (l:=[]) ?_ rfl (hsp _ _) ?_
           . simp only[bh];rw[if_pos (by omega)]
           . refine Goes.step (l:=[]) ?_ rfl hc1 (.nil _);simp only[bh];rw[if_pos (by omega)]
theorem oa{b w:Int}(h:ee b=some w):bh .hex b=some []:=by simp[bh,h]
theorem some_of{b:Int}(h:(ee b).isSome=true):∃ w,ee b=some w:=Option.isSome_iff_exists.mp h
theorem n5{a b c d:Int}(ha:(ee a).isSome=true)(hb:(ee b).isSome=true)(hc:(ee c).isSome=true)(hd:(ee d).isSome=true):bD a=[a] /\ bD b=[b] /\ bD c=[c] /\ bD d=[d]:=by
 obtain⟨w1,e1⟩:=some_of ha;obtain⟨w2,e2⟩:=some_of hb;obtain⟨w3,e3⟩:=some_of hc;obtain⟨w4,e4⟩:=some_of hd;have:=lC e1;have:=lC e2;have:=lC e3;have:=lC e4
 exact⟨mz (by omega),mz (by omega),mz (by omega),mz (by omega)⟩
theorem Hr(s:Sg)(h:Sok s)(st:List It)(hc:cnt st<=64):Goes (.text ::st) (oK s) (.text ::st):=by
 have hc1:cnt (.text ::st)<=64:=by rw[cnt_cons];simp[opn];omega
 have n0:∀ it:It,opn it=false->∀ st,cnt st<=64->cnt (it ::st)<=64:=fun it ho st h=>by rw[cnt_cons,ho];simp;omega
 cases s with
 | pl p=>
   obtain⟨h1,h2,h3,h4⟩:=h;show Goes _ (bD p++[]) _;rw[List.append_nil];exact GB h1 h2 h3 h4 hc
 | sh c p=>
   have hb:oK (.sh c p)=[92,c] /\ bh .escape c=some []:=by
    simp only[Sok,shP,List.mem_cons,Prod.mk.injEq,List.not_mem_nil,or_false]at h
    rcases h with h|h|h|h|h|h|h|h<;>(obtain⟨rfl,rfl⟩:=h;exact⟨rfl,rfl⟩)
   rw[hb.1];exact Goes.step (l:=[.escape,.text]) rfl rfl hc (Goes.step (l:=[]) hb.2 rfl hc1 (.nil _))
 | hx a b c d=>
   obtain⟨ha,hb,hcc,hd,hs⟩:=h;obtain⟨e1,e2,e3,e4⟩:=n5 ha hb hcc hd
   have hby:oK (.hx a b c d)=[92,117,a,b,c,d]:=by
    show bD 92++(bD 117++(bD a++(bD b++(bD c++(bD d++[])))))=_;rw[e1,e2,e3,e4];rfl
   rw[hby];obtain⟨w1,f1⟩:=some_of ha;obtain⟨w2,f2⟩:=some_of hb;obtain⟨w3,f3⟩:=some_of hcc;obtain⟨w4,f4⟩:=some_of hd;refine Goes.step (l:=[.escape,.text]) rfl rfl hc (Goes.step (l:=[.code]) rfl rfl hc1 ?_)
   by_cases hw:w1=13
   . have h8:w2 < 8:=by
      have g2:=lC f2;have g3:=lC f3;have g4:=lC f4;simp only[cod,m7 f1,m7 f2,m7 f3,m7 f4]at hs;omega
     refine Goes.step (l:=[.coded]) (by simp[bh,f1,hw]) rfl hc1 (Goes.step (l:=[.hex,.hex]) (by simp[bh,f2,yk,h8]) rfl hc1 ?_);exact Goes.step (l:=[]) (oa f3) rfl (n0 _ rfl _ hc1) (Goes.step (l:=[]) (oa f4) rfl hc1 (.nil _))
   . refine Goes.step (l:=[.hex,.hex,.hex]) (by simp[bh,f1,hw]) rfl hc1 ?_;exact Goes.step (l:=[]) (oa f2) rfl (n0 _ rfl _ (n0 _ rfl _ hc1)) (Goes.step (l:=[]) (oa f3) rfl (n0 _ rfl _ hc1) (Goes.step (l:=[]) (oa f4) rfl hc1 (.nil _)))
 | pr a b c d e f g h'=>
   obtain⟨⟨f1,hb8,hb12,hb,hcc,hd⟩,f5,hf12,hf,hg,hh⟩:=h;obtain⟨e1,e2,e3,e4⟩:=n5 (by rw[f1];rfl) hb hcc hd;obtain⟨e5,e6,e7,e8⟩:=n5 (by rw[f5];rfl) hf hg hh
   have hby:oK (.pr a b c d e f g h')=[92,117,a,b,c,d,92,117,e,f,g,h']:=by
    show bD 92++(bD 117++(bD a++(bD b++(bD c++(bD d++(bD 92++(bD 117++(bD e++(bD f++(bD g++(bD h'++[])))))))))))=_;rw[e1,e2,e3,e4,e5,e6,e7,e8];rfl
   rw[hby];obtain⟨w2,f2⟩:=some_of hb;obtain⟨w3,f3⟩:=some_of hcc;obtain⟨w4,f4⟩:=some_of hd;obtain⟨w6,f6⟩:=some_of hf;obtain⟨w7,f7⟩:=some_of hg;obtain⟨w8,f8⟩:=some_of hh;rw[m7 f2]at hb8 hb12;rw[m7 f6]at hf12
   have hn8:¬ w2<8:=by omega
   refine Goes.step (l:=[.escape,.text]) rfl rfl hc (Goes.step (l:=[.code]) rfl rfl hc1 (Goes.step (l:=[.coded]) (by simp[bh,f1]) rfl hc1 (Goes.step (l:=[.hex,.hex,.sp 92 92,.sp 117 117,.hexd,.hexcf,.hex,.hex]) (by simp[bh,f2,yk,hn8,hb12]) rfl hc1 ?_)));have k1:=n0 .hex rfl _ hc1;have k2:=n0 .hex rfl _ k1;have k3:=n0 .hexcf rfl _ k2;have k4:=n0 .hexd rfl _ k3;have k5:=n0 (.sp 117 117) rfl _ k4;have k6:=n0 (.sp 92 92) rfl _ k5;have k7:=n0 .hex rfl _ k6;exact Goes.step (l:=[]) (oa f3) rfl k7 (Goes.step (l:=[]) (oa f4) rfl k6 (Goes.step (l:=[]) rfl rfl k5 (Goes.step (l:=[]) rfl rfl k4 (Goes.step (l:=[]) (by simp[bh,f5]) rfl k3 (Goes.step (l:=[]) (by simp[bh,f6,hf12]) rfl k2 (Goes.step (l:=[]) (oa f7) rfl k1 (Goes.step (l:=[]) (oa f8) rfl hc1 (.nil _))))))))
def inner(ss:List Sg):List Int:=ss.flatMap oK
theorem Es(ss:List Sg)(h:∀ s∈ss,Sok s)(st:List It)(hc:cnt st<=64):Goes (.text ::st) (inner ss) (.text ::st):=by
 induction ss with
 |nil=>exact .nil _
 |cons s ss ih=>exact(Hr s (h s List.mem_cons_self) st hc).trans (ih fun x hx=>h x (List.mem_cons_of_mem _ hx))
theorem tH(ss:List Sg)(h:∀ s∈ss,Sok s)(st:List It)(hc:cnt st<=64):Goes (.text ::st) (inner ss++[34]) st:=
 (Es ss h st hc).trans (Goes.step (l:=[]) rfl rfl hc (.nil _))
theorem Goes.skip{it:It}{st st':List It}{b:Int}{bs:List Int}(h:bh it b=none)(hl:loose it=true)(k:Goes st (b ::bs) st'):Goes (it ::st) (b ::bs) st':=fun r=>by
 rw[List.cons_append,G5 h hl,<- List.cons_append,k]
theorem Goes.flt{row:List Int}{st:List It}(h:Goes st0 row st)(hl:st.all loose=true):flt row=none:=by
 have e:=h [];rw[List.append_nil]at e;unfold PG.flt;rw[e];simp[tk,hl]
def txt(ss:List Sg):List Int:=34 ::(inner ss++[34])
theorem Br{st:List It}(ss:List Sg)(h:∀ s∈ss,Sok s)(hc:cnt st<=64):Goes (.value ::st) (txt ss) st:=
 Goes.step (l:=[.text]) rfl rfl hc (tH ss h st hc)
end PG
namespace PG
abbrev isF(b:Int):Prop:=48<=b /\ b<=57
def cT(n:Nat):List Int:=if n<10 then[48+(n:Int)]else cT (n/10)++[48+((n%10:Nat):Int)]
termination_by n
decreasing_by omega
def dz(n:Nat):List Int:=if n=0 then[]else cT n
theorem Kc(n:Nat):cT n=dz (n/10)++[48+((n%10:Nat):Int)]:=by
 rw[cT];unfold dz
 by_cases h:n<10
 . rw[if_pos h,if_pos (by omega),Nat.mod_eq_of_lt h];rfl
 . rw[if_neg h,if_neg (by omega)]
theorem ze(n:Nat):∀ b∈cT n,isF b:=by
 induction n using Nat.strongRecOn with
 | _ n ih=>
   intro b hb;rw[cT]at hb;split at hb
   . simp at hb;unfold isF;omega
   . rcases List.mem_append.mp hb with z|z
     . exact ih (n/10) (by omega) b z
     . simp at z;unfold isF;omega
theorem GP(n:Nat):cT n≠[]:=by rw[Kc];simp
theorem CM(n:Nat)(h:0<n):∃ d r,cT n=d ::r /\ 49<=d /\ d<=57 /\ ∀ b∈r,isF b:=by
 induction n using Nat.strongRecOn with
 | _ n ih=>
   rw[cT];split
   . exact⟨48+(n:Int),[],rfl,by omega,by omega,fun b hb=>by cases hb⟩
   . obtain⟨d,r,e,h1,h2,h3⟩:=ih (n/10) (by omega) (by omega);rw[e]
     refine⟨d,r++[48+((n%10:Nat):Int)],rfl,h1,h2,fun b hb=>?_⟩
     rcases List.mem_append.mp hb with z|z
     . exact h3 b z
     . simp at z;unfold isF;omega
theorem Dn:cT 0=[48]:=by rw[cT];rfl
theorem o2(k:Nat):∀ n:Nat,n<10 ^ (k+1)->(cT n).length<=k+1:=by
 induction k with
 |zero=>intro n h;rw[cT,if_pos (by simpa using h)];simp
 | succ k ih=>
   intro n h;rw[cT];split
   . simp
   . have:n/10<10 ^ (k+1):=by rw[Nat.pow_succ]at h;omega
     have:=ih (n/10) this
     simp;omega
def cv(ds:List Int):Int:=ds.foldl (fun n d=>10*n+d - 48) 0
theorem GN(ds:List Int)(d:Int):cv (ds++[d])=10*cv ds+d - 48:=by simp[cv]
theorem G3(n:Nat):cv (cT n)=n:=by
 induction n using Nat.strongRecOn with
 | _ n ih=>
   rw[cT];split
   . simp[cv];omega
   . rw[GN,ih (n/10) (by omega)];omega
structure Nm where
 neg:Bool
 ip:List Int
 fr:List Int
 ex:Option (Int×List Int×List Int)
def frB(fr:List Int):List Int:=if fr=[]then[]else 46 ::fr
def exB:Option (Int×List Int×List Int)->List Int
 |none=>[]
 |some (e,s,ds)=>e ::(s++ds)
def nb(m:Nm):List Int:=(if m.neg then[45]else[])++(m.ip++(frB m.fr++exB m.ex))
structure Nok(m:Nm):Prop where
 ip:(m.ip=[48]) \/ ∃ d r,m.ip=d ::r /\ 49<=d /\ d<=57 /\ ∀ b∈r,isF b
 fr:∀ b∈m.fr,isF b
 ex:∀ e s ds,m.ex=some (e,s,ds)->(e=101 \/ e=69) /\ (s=[] \/ s=[43] \/ s=[45]) /\ ds≠[] /\ ∀ b∈ds,isF b
def nl:It->Bool
 |.figures=>true|.fraction=>true|.exponent=>true
 |_=>false
theorem tM{st:List It}(hc:cnt st<=64)(ds:List Int)(h:∀ b∈ds,isF b):Goes (.figures ::st) ds (.figures ::st):=by
 induction ds with
 |nil=>exact .nil _
 | cons d ds ih=>
   refine Goes.step (l:=[.figures]) ?_ rfl hc (ih fun b hb=>h b (List.mem_cons_of_mem _ hb));have:=h d List.mem_cons_self;simp only[bh];rw[if_pos this]
theorem D4{m:Nm}(h:Nok m){st:List It}(hc:cnt st<=64):∃ ls,ls.all nl=true /\ Goes (.value ::st) (nb m) (ls++st):=by
 have n1:∀ it:It,opn it=false->∀ st,cnt st<=64->cnt (it ::st)<=64:=fun it ho st h=>by rw[cnt_cons,ho];simp;omega
 have hlead:∃ ls,(ls=[.fraction,.exponent] \/ ls=[.figures,.fraction,.exponent]) /\ Goes (.lead ::st) m.ip (ls++st) /\ ∀ b r,m.ip=b ::r->bh .value b=bh .lead b:=by
  rcases h.ip with e|⟨d,r,e,h1,h2,h3⟩
  . exact⟨_,.inl rfl,by rw[e];exact Goes.step (l:=[.fraction,.exponent]) rfl rfl hc (.nil _),fun b r e2=>by rw[e]at e2;cases e2;rfl⟩
  . refine⟨_,.inr rfl,?_,fun b r' e2=>?_⟩
    . rw[e];refine Goes.step (l:=[.figures,.fraction,.exponent]) ?_ rfl hc ?_
      . simp only[bh,kG];rw[if_neg (by omega),if_pos (by omega)]
      . exact tM (n1 _ rfl _ (n1 _ rfl _ hc)) r h3
    . rw[e]at e2;cases e2;simp only[bh,jm];rw[if_neg (by omega),if_neg (by omega),if_neg (by omega),if_neg (by omega),if_neg (by omega),if_neg (by omega),if_neg (by omega)]
 obtain⟨ls,hls,g1,g2⟩:=hlead
 have g3:Goes (.value ::st) ((if m.neg then[45]else[])++m.ip) (ls++st):=by
  cases m.neg with
  |true=>exact Goes.step (l:=[.lead]) rfl rfl hc g1
  | false=>
    rw[if_neg (by decide),List.nil_append]
    rcases h.ip with e|⟨d,r,e,_⟩
    . intro q;have e1:=g1 q;have e2:=g2 48 [] e
      rw[e]at e1 ⊢
      rw[<- e1];simp[tk,gon,e2,loose]
    . intro q;have e1:=g1 q;have e2:=g2 d r e
      have ne:∃ l,bh .lead d=some l:=by
       rw[e]at e1
       cases e3:bh .lead d with
       |some l=>exact⟨l,rfl⟩
       |none=>simp[tk,gon,e3,loose]at e1
      obtain⟨l,hl⟩:=ne
      rw[e]at e1 ⊢
      rw[<- e1];simp[tk,gon,e2,hl]
 have g4:∃ ls',(ls'=[.figures,.exponent] \/ ls'=[.fraction,.exponent] \/ ls'=[.figures,.fraction,.exponent]) /\ Goes (ls++st) (frB m.fr) (ls'++st):=by
  unfold frB
  cases e:m.fr with
  | nil=>
    rw[if_pos rfl]
    refine⟨ls,?_,.nil _⟩
    rcases hls with z|z
    . exact .inr (.inl z)
    . exact .inr (.inr z)
  | cons d ds=>
    rw[if_neg (by simp)];have hf:=h.fr;rw[e]at hf
    refine⟨_,.inl rfl,?_⟩
    have base:Goes (.fraction ::.exponent ::st) (46 ::d ::ds) (.figures ::.exponent ::st):=by
     refine Goes.step (l:=[.sp 48 57,.figures]) rfl rfl (n1 _ rfl _ hc) (Goes.step (l:=[]) ?_ rfl (n1 _ rfl _ (n1 _ rfl _ hc)) (tM (n1 _ rfl _ hc) ds fun b hb=>hf b (List.mem_cons_of_mem _ hb)));have:=hf d List.mem_cons_self;simp only[bh];rw[if_pos this]
    rcases hls with z|z
    . subst z;exact base
    . subst z;exact Goes.skip rfl rfl base
 obtain⟨ls',hls',g5⟩:=g4
 have g6:∃ ls2,ls2.all nl=true /\ Goes (ls'++st) (exB m.ex) (ls2++st):=by
  cases e:m.ex with
  | none=>
    refine⟨ls',?_,.nil _⟩
    rcases hls' with z|z|z<;>(subst z;rfl)
  | some x=>
    obtain⟨eb,s,ds⟩:=x;obtain⟨he,hs,hd,hf⟩:=h.ex eb s ds e
    refine⟨[.figures],rfl,?_⟩
    have base:Goes (.exponent ::st) (eb ::(s++ds)) (.figures ::st):=by
     refine Goes.step (l:=[.sign,.sp 48 57,.figures]) (by rcases he with rfl|rfl<;>rfl) rfl hc ?_
     obtain⟨d,r,ed⟩:∃ d r,ds=d ::r:=by
      cases ds with
      |nil=>exact absurd rfl hd
      |cons d r=>exact⟨d,r,rfl⟩
     subst ed;have hd1:=hf d List.mem_cons_self
     have tail:Goes (.sp 48 57 ::.figures ::st) (d ::r) (.figures ::st):=by
      refine Goes.step (l:=[]) ?_ rfl (n1 _ rfl _ hc) (tM hc r fun b hb=>hf b (List.mem_cons_of_mem _ hb));simp only[bh];rw[if_pos hd1]
     rcases hs with rfl|rfl|rfl
     . refine Goes.skip ?_ rfl tail;unfold isF at hd1;simp only[bh];rw[if_neg (by omega)]
     . exact Goes.step (l:=[]) rfl rfl (n1 _ rfl _ (n1 _ rfl _ hc)) tail
     . exact Goes.step (l:=[]) rfl rfl (n1 _ rfl _ (n1 _ rfl _ hc)) tail
    have k1:bh .figures eb=none:=by rcases he with rfl|rfl<;>rfl
    have k2:bh .fraction eb=none:=by rcases he with rfl|rfl<;>rfl
    rcases hls' with z|z|z
    . subst z;exact Goes.skip k1 rfl base
    . subst z;exact Goes.skip k2 rfl base
    . subst z;exact Goes.skip k1 rfl (Goes.skip k2 rfl base)
 obtain⟨ls2,hl2,g7⟩:=g6
 refine⟨ls2,hl2,?_⟩
 have:=g3.trans (g5.trans g7);unfold nb
 simpa using this
theorem wR{ls st st':List It}{b:Int}{bs:List Int}(h:ls.all nl=true)(hb:bh .figures b=none /\ bh .fraction b=none /\ bh .exponent b=none)(k:Goes st (b ::bs) st'):Goes (ls++st) (b ::bs) st':=by
 induction ls with
 |nil=>exact k
 | cons it ls ih=>
   simp only[List.all_cons,Bool.and_eq_true]at h
   cases it with
   |figures=>exact Goes.skip hb.1 rfl (ih h.2)
   |fraction=>exact Goes.skip hb.2.1 rfl (ih h.2)
   |exponent=>exact Goes.skip hb.2.2 rfl (ih h.2)
   |_=>exact absurd h.1 (by simp[nl])
theorem yU{ls:List It}(h:ls.all nl=true):ls.all loose=true:=by
 rw[List.all_eq_true]at h ⊢
 intro it hi;have:=h it hi
 cases it<;>first|rfl|(exact absurd this (by simp[nl]))
end PG
namespace PG
open L2.P PySem
def out:List Bool->List It
 |[]=>[.bg]
 |r ::fs=>.bg ::(if r then .mrow else .mfields) ::out fs
def hd(r e:Bool):It:=if r then(if e then .row else .mrow)else(if e then .fields else .mfields)
def stk(r e:Bool)(fs:List Bool):List It:=.bg ::hd r e ::out fs
theorem jk:∀ fs:List Bool,cnt (out fs)=fs.length
 |[]=>rfl
 | r ::fs=>by
   show cnt (.bg ::(if r then It.mrow else It.mfields) ::out fs)=fs.length+1;rw[cnt_cons,cnt_cons,jk fs]
   cases r<;>simp[opn]<;>omega
def Gs(a:List It)(xs:List Int)(b:List It):Prop:=∃ ls,ls.all nl=true /\ Goes a xs (ls++b)
theorem Gs.of{a b:List It}{xs:List Int}(h:Goes a xs b):Gs a xs b:=⟨[],rfl,h⟩
def xE(b:Int):Prop:=bh .figures b=none /\ bh .fraction b=none /\ bh .exponent b=none
theorem Gs.go{a b c:List It}{xs ys:List Int}{y:Int}(h:Gs a xs b)(hy:xE y)(k:Goes b (y ::ys) c):Goes a (xs++y ::ys) c:=by
 obtain⟨ls,hl,h⟩:=h;exact h.trans (wR hl hy k)
theorem DD{b:Int}(h:wht b=true):xE b:=by
 unfold wht at h;simp only[Bool.or_eq_true,decide_eq_true_eq]at h
 refine⟨?_,?_,?_⟩<;>rcases h with h|h|h|h<;>subst h<;>rfl
theorem Ae:xE 44:=⟨rfl,rfl,rfl⟩
theorem zf:xE 93:=⟨rfl,rfl,rfl⟩
theorem xf:xE 125:=⟨rfl,rfl,rfl⟩
theorem nO{st:List It}(hc:cnt st<=64):∀ ws:List Int,(∀ b∈ws,wht b=true)->Goes (.bg ::st) ws (.bg ::st)
 |[],_=>Goes.nil _
 |w ::ws,h=>Goes.step (l:=[.bg]) (by simp[bh,h w (List.mem_cons_self)]) rfl hc (nO hc ws fun b hb=>h b (List.mem_cons_of_mem _ hb))
theorem Gs.bg{a st:List It}{xs ws:List Int}(h:Gs a xs (.bg ::st))(hc:cnt st<=64)(hw:∀ b∈ws,wht b=true):Gs a (xs++ws) (.bg ::st):=by
 cases ws with
 |nil=>rw[List.append_nil];exact h
 |cons w ws=>exact .of (h.go (DD (hw w List.mem_cons_self)) (nO hc _ hw))
theorem Goes.past{st st':List It}{b:Int}{bs:List Int}(hb:wht b=false)(k:Goes st (b ::bs) st'):Goes (.bg ::st) (b ::bs) st':=
 Goes.skip (by simp[bh,hb]) rfl k
theorem Goes.one{it:It}{st l:List It}{b:Int}(h:bh it b=some l)(hc:cnt (l++st)<=64):Goes (it ::st) [b] (l++st):=fun r=>by
 have:gon (it ::st) b=(l++st,true):=by unfold gon;rw[h];simp[hc]
 show tk (it ::st) (b ::r)=_;rw[Mj this];rfl
theorem Gs.CG{a:List It}{xs:List Int}{fs:List Bool}(h:Gs a xs (stk true false fs))(hc:fs.length<64):Goes a (xs++[44]) (.bg ::.value ::out (true ::fs)):=by
 refine h.go Ae (.past rfl ?_)
 have:=Goes.one (it:=.mrow) (st:=out fs) (b:=44) (l:=[.bg,.value,.bg,.mrow]) rfl (by
  show cnt (.bg ::.value ::out (true ::fs))<=64
  rw[cnt_cons,cnt_cons,jk];simp[opn];omega)
 exact this
theorem Gs.xK{a:List It}{xs:List Int}{fs:List Bool}(h:Gs a xs (stk false false fs))(hc:fs.length<64):Goes a (xs++[44]) (.bg ::.name ::.bg ::.sp 58 58 ::.bg ::.value ::out (false ::fs)):=by
 refine h.go Ae (.past rfl ?_)
 have:=Goes.one (it:=.mfields) (st:=out fs) (b:=44) (l:=.bg ::.name ::qq) rfl (by
  show cnt (.bg ::.name ::.bg ::.sp 58 58 ::.bg ::.value ::out (false ::fs))<=64
  simp only[cnt_cons,jk];simp[opn];omega)
 exact this
theorem Gs.close{a:List It}{xs:List Int}{fs:List Bool}(r e:Bool)(h:Gs a xs (stk r e fs))(hc:fs.length<=64):Goes a (xs++[if r then 93 else 125]) (out fs):=by
 refine h.go (by cases r;exact xf;exact zf) (.past (by cases r<;>rfl) ?_);exact Goes.one (it:=hd r e) (st:=out fs) (l:=[]) (by cases r<;>cases e<;>rfl) (by rw[List.nil_append,jk];exact hc)
theorem CF{fs:List Bool}(r:Bool)(hc:fs.length<64):Goes (.value ::out fs) [if r then 91 else 123] (stk r true fs):=by
 have:=Goes.one (it:=.value) (st:=out fs) (b:=if r then 91 else 123) (l:=[.bg,hd r true]) (by cases r<;>rfl) (by
  show cnt (.bg ::hd r true ::out fs)<=64
  rw[cnt_cons,cnt_cons,jk];cases r<;>simp[opn,hd]<;>omega)
 exact this
theorem Bq{fs:List Bool}{b:Int}{bs:List Int}{st' l:List It}(hb:jm b=some l)(hn:b≠93)(k:Goes (.value ::out (true ::fs)) (b ::bs) st'):Goes (.row ::out fs) (b ::bs) st':=fun r=>by
 rw[<- k r]
 have e1:bh .row b=some (l++[.bg,.mrow]):=by simp[bh,hn,hb]
 have e2:bh .value b=some l:=hb
 have:gon (.row ::out fs) b=gon (.value ::out (true ::fs)) b:=by
  unfold gon;rw[e1,e2];simp[out]
 show tk _ (b ::(bs++r))=tk _ (b ::(bs++r));unfold tk;rw[this]
inductive Wd where|null|tru|fal
def wdb:Wd->List Int
 |.null=>[110,117,108,108]|.tru=>[116,114,117,101]|.fal=>[102,97,108,115,101]
theorem jq{c:Int}{st:List It}(hc:cnt st<=64):Goes (.sp c c ::st) [c] st:=by
 have:=Goes.one (it:=.sp c c) (st:=st) (b:=c) (l:=[]) (by simp[bh]) hc;exact this
theorem Dq{st:List It}(hc:cnt st<=64)(w:Wd):Goes (.value ::st) (wdb w) st:=by
 cases w with
 |null=>exact Goes.step (l:=[.sp 117 117,.sp 108 108,.sp 108 108]) rfl rfl hc (Goes.trans (xs:=[117]) (jq (by simpa [cnt_cons,opn]using hc)) (Goes.trans (xs:=[108]) (jq (by simpa [cnt_cons,opn]using hc)) (jq hc)))
 |tru=>exact Goes.step (l:=[.sp 114 114,.sp 117 117,.sp 101 101]) rfl rfl hc (Goes.trans (xs:=[114]) (jq (by simpa [cnt_cons,opn]using hc)) (Goes.trans (xs:=[117]) (jq (by simpa [cnt_cons,opn]using hc)) (jq hc)))
 |fal=>exact Goes.step (l:=[.sp 97 97,.sp 108 108,.sp 115 115,.sp 101 101]) rfl rfl hc (Goes.trans (xs:=[97]) (jq (by simpa [cnt_cons,opn]using hc)) (Goes.trans (xs:=[108]) (jq (by simpa [cnt_cons,opn]using hc)) (Goes.trans (xs:=[115]) (jq (by simpa [cnt_cons,opn]using hc)) (jq hc))))
inductive Lf where|wd(w:Wd)|nm(m:Nm)|tx(l:List Sg)
def lfb:Lf->List Int
 |.wd w=>wdb w|.nm m=>nb m|.tx l=>txt l
def Lok:Lf->Prop
 |.wd _=>True|.nm m=>Nok m|.tx l=>∀ s∈l,Sok s
theorem HW{st:List It}(hc:cnt st<=64)(x:Lf)(h:Lok x):Gs (.value ::st) (lfb x) st:=by
 cases x with
 |wd w=>exact .of (Dq hc w)
 |nm m=>exact D4 h hc
 |tx l=>exact .of (Br l h hc)
theorem C6{st:List It}(hc:cnt st<=64)(l:List Sg)(h:∀ s∈l,Sok s):Goes (.name ::st) (txt l) st:=
 Goes.step (l:=[.text]) rfl rfl hc (tH l h st hc)
theorem As{fs:List Bool}(hc:fs.length<64)(l:List Sg)(h:∀ s∈l,Sok s):Goes (.fields ::out fs) (txt l) (.bg ::.sp 58 58 ::.bg ::.value ::out (false ::fs)):=by
 have hcc:cnt (.bg ::.sp 58 58 ::.bg ::.value ::out (false ::fs))<=64:=by simp only[cnt_cons,jk];simp[opn];omega
 have h1:=Goes.one (it:=.fields) (st:=out fs) (b:=34) (l:=.text ::qq) rfl (by
  show cnt (.text ::.bg ::.sp 58 58 ::.bg ::.value ::out (false ::fs))<=64
  rw[cnt_cons];simpa [opn]using hcc)
 exact Goes.trans h1 (tH l h _ hcc)
theorem A3{st:List It}(hc:cnt st<=64){ws:List Int}(hw:∀ b∈ws,wht b=true):Goes (.bg ::.sp 58 58 ::.bg ::st) (ws++[58]) (.bg ::st):=
 (nO (by simpa [cnt_cons,opn]using hc) ws hw).trans (.past rfl (jq (by simpa [cnt_cons,opn]using hc)))
def tb(b:Int):Prop:=wht b=true \/ isF b \/ b=46 \/ b=101 \/ b=69 \/ b=43 \/ b=45
theorem FR:∀(P R:List Int) (st:List It),(tk st (P++R)).2=(P++R).length->(tk st P).2=P.length /\ (tk (tk st P).1 R).2=R.length
 |[],R,st,h=>⟨rfl,h⟩
 | b ::P,R,st,h=>by
   simp only[List.cons_append]at h;unfold tk at h
   have e:(gon st b).2=true:=by
    cases q:(gon st b).2 with
    |true=>rfl
    |false=>rw[q]at h;simp at h
   rw[if_pos e]at h;have k:=FR P R (gon st b).1 (by simp only[List.length_cons]at h;omega)
   have e2:tk st (b ::P)=((tk (gon st b).1 P).1,(tk (gon st b).1 P).2+1):=by rw[tk,if_pos e]
   rw[e2]
   exact⟨by simp only[List.length_cons];omega,k.2⟩
theorem Goes.whole{a b:List It}{xs:List Int}(h:Goes a xs b):(tk a xs).2=xs.length:=by
 have:=h [];rw[List.append_nil]at this;rw[this];simp[tk]
def short:It->List Int
 |.sp lo _=>[lo]|.value=>[48]|.lead=>[48]|.text=>[34]|.name=>[34,34]|.escape=>[34]|.code=>[48,48,48,48]|.coded=>[48,48,48]
 |.hex=>[48]|.hexd=>[68]|.hexcf=>[67]|.row=>[93]|.mrow=>[93]|.fields=>[125]|.mfields=>[125]
 |_=>[]
def ends(st:List It):List Int:=st.flatMap short
theorem dO(it:It)(st:List It):ends (it ::st)=short it++ends st:=rfl
def K2(b:Int):Prop:=wht b=false /\ b≠43 /\ b≠45
def spk:It->Prop
 |.sp lo hi=>lo<=hi /\ K2 lo
 |_=>True
def num:It->Bool
 |.figures=>true|.fraction=>true|.exponent=>true|.value=>true|.lead=>true
 |_=>false
def Stp(st:List It):Prop:=∀ b r,ends st=b ::r->xE b
def Okk:List It->Prop
 |[]=>True
 |it ::st=>spk it /\ (num it=true->Stp st) /\ Okk st
theorem A8{it:It}{b:Int}{r:List Int}(h:spk it)(e:short it=b ::r):K2 b:=by
 cases it<;>simp only[short,List.cons.injEq,reduceCtorEq]at e
 case sp lo hi=>rw[<- e.1];exact h.2
 all_goals(rw[<- e.1];exact⟨rfl,by decide,by decide⟩)
theorem qa{it:It}:short it=[]↔loose it=true:=by cases it<;>simp[short,loose]
theorem xB:∀{st:List It} {b:Int} {r:List Int},Okk st->ends st=b ::r->K2 b
 |[],b,r,_,e=>by cases e
 | it ::st,b,r,h,e=>by
   rw[dO]at e
   cases q:short it with
   |nil=>rw[q]at e;exact xB h.2.2 e
   |cons c r'=>rw[q]at e;cases e;exact A8 h.1 q
theorem vS:∀{st:List It},ends st=[]->st.all loose=true
 |[],_=>rfl
 | it ::st,e=>by
   rw[dO,List.append_eq_nil_iff]at e;rw[List.all_cons,qa.mp e.1,vS e.2];rfl
theorem EW{it:It}{st:List It}(h:cnt (it ::st)<=64):cnt st<=64:=by
 rw[cnt_cons]at h;split at h<;>omega
theorem Bt{it:It}{st:List It}(h:spk it)(hl:loose it=false)(hc:cnt st<=64):∃ l,l.all nl=true /\ (num it=false->l=[]) /\ Goes (it ::st) (short it) (l++st):=by
 have one:∀(it:It) (b:Int) (st:List It),cnt st<=64->bh it b=some []->Goes (it ::st) [b] st:=fun it b st hc hb=>Goes.one (l:=[]) hb hc
 have h0:∀ st:List It,cnt st<=64->Goes (.hex ::st) [48] st:=fun st hc=>one .hex 48 st hc rfl
 have hh:∀ st:List It,cnt st<=64->cnt (.hex ::st)<=64:=fun st hc=>by rw[cnt_cons];simpa [opn]using hc
 cases it<;>simp only[loose,Bool.true_eq_false]at hl
 case sp lo hi=>exact⟨[],rfl,fun _=>rfl,one _ _ _ hc (by simp only[bh];rw[if_pos ⟨Int.le_refl _,h.1⟩])⟩
 case value=>exact⟨[.fraction,.exponent],rfl,fun z=>by simp[num]at z,Goes.one (l:=[.fraction,.exponent]) rfl (by simpa [cnt_cons,opn]using hc)⟩
 case lead=>exact⟨[.fraction,.exponent],rfl,fun z=>by simp[num]at z,Goes.one (l:=[.fraction,.exponent]) rfl (by simpa [cnt_cons,opn]using hc)⟩
 case text=>exact⟨[],rfl,fun _=>rfl,one _ _ _ hc rfl⟩
 case escape=>exact⟨[],rfl,fun _=>rfl,one _ _ _ hc rfl⟩
 case hex=>exact⟨[],rfl,fun _=>rfl,one _ _ _ hc rfl⟩
 case hexd=>exact⟨[],rfl,fun _=>rfl,one _ _ _ hc rfl⟩
 case hexcf=>exact⟨[],rfl,fun _=>rfl,one _ _ _ hc rfl⟩
 case row=>exact⟨[],rfl,fun _=>rfl,one _ _ _ hc rfl⟩
 case mrow=>exact⟨[],rfl,fun _=>rfl,one _ _ _ hc rfl⟩
 case fields=>exact⟨[],rfl,fun _=>rfl,one _ _ _ hc rfl⟩
 case mfields=>exact⟨[],rfl,fun _=>rfl,one _ _ _ hc rfl⟩
 case name=>exact⟨[],rfl,fun _=>rfl,Goes.trans (xs:=[34]) (Goes.one (it:=.name) (l:=[.text]) rfl (by simpa [cnt_cons,opn]using hc)) (one .text 34 st hc rfl)⟩
 case coded=>exact⟨[],rfl,fun _=>rfl,Goes.trans (xs:=[48]) (Goes.one (it:=.coded) (l:=[.hex,.hex]) rfl (by simpa [cnt_cons,opn]using hc)) (Goes.trans (xs:=[48]) (h0 _ (hh _ hc)) (h0 _ hc))⟩
 case code=>exact⟨[],rfl,fun _=>rfl,Goes.trans (xs:=[48]) (Goes.one (it:=.code) (l:=[.hex,.hex,.hex]) rfl (by simpa [cnt_cons,opn]using hc)) (Goes.trans (xs:=[48]) (h0 _ (hh _ (hh _ hc))) (Goes.trans (xs:=[48]) (h0 _ (hh _ hc)) (h0 _ hc)))⟩
theorem FT{l st:List It}(h:l.all nl=true)(k:st.all loose=true):(l++st).all loose=true:=by rw[List.all_append,yU h,k];rfl
theorem xi:∀{st:List It},Okk st->cnt st<=64->∃ st',st'.all loose=true /\ Goes st (ends st) st'
 |[],_,_=>⟨[],rfl,Goes.nil _⟩
 | it ::st,h,hc=>by
   obtain⟨st',k1,k2⟩:=xi h.2.2 (EW hc);rw[dO]
   cases hl:loose it with
   | true=>
     rw[qa.mpr hl,List.nil_append]
     cases e:ends st with
     |nil=>exact⟨it ::st,by rw[List.all_cons,hl,vS e];rfl,Goes.nil _⟩
     | cons b r=>
       have hf:=xB h.2.2 e;rw[e]at k2
       refine⟨st',k1,Goes.skip ?_ hl k2⟩
       cases it<;>simp only[loose,Bool.false_eq_true]at hl
       case bg=>simp[bh,hf.1]
       case sign=>simp[bh,hf.2.1,hf.2.2]
       case figures=>exact(h.2.1 rfl b r e).1
       case fraction=>exact(h.2.1 rfl b r e).2.1
       case exponent=>exact(h.2.1 rfl b r e).2.2
   | false=>
     obtain⟨l,l1,l2,l3⟩:=Bt h.1 hl (EW hc)
     cases e:ends st with
     |nil=>rw[List.append_nil];exact⟨l++st,FT l1 (vS e),l3⟩
     | cons b r=>
       rw[e]at k2
       cases hn:num it with
       |true=>exact⟨st',k1,l3.trans (wR l1 (h.2.1 hn b r e) k2)⟩
       | false=>
         rw[l2 hn,List.nil_append]at l3
         exact⟨st',k1,l3.trans k2⟩
theorem Aa{st l:List It}{b:Int}(hs:Stp st)(h:Okk st)(e:kG b=some l):Okk (l++st):=by
 unfold kG at e;split at e
 . cases e;exact⟨trivial,fun _=>hs,trivial,fun _=>hs,h⟩
 . split at e
   . cases e;exact⟨trivial,fun _=>hs,trivial,fun _=>hs,trivial,fun _=>hs,h⟩
   . cases e
theorem Cn{st l:List It}{b:Int}(hs:Stp st)(h:Okk st)(e:jm b=some l):Okk (l++st):=by
 have sp1:∀(lo:Int) (st:List It),(lo=117 \/ lo=108 \/ lo=114 \/ lo=101 \/ lo=97 \/ lo=115)->Okk st->Okk (.sp lo lo ::st):=fun lo st hl hk=>by
  refine⟨⟨Int.le_refl _,?_⟩,fun z=>by simp[num]at z,hk⟩
  rcases hl with z|z|z|z|z|z<;>subst z<;>exact⟨rfl,by decide,by decide⟩
 unfold jm at e
 repeat' split at e
 . cases e;exact⟨trivial,fun z=>by simp[num]at z,trivial,fun z=>by simp[num]at z,h⟩
 . cases e;exact⟨trivial,fun z=>by simp[num]at z,trivial,fun z=>by simp[num]at z,h⟩
 . cases e;exact⟨trivial,fun z=>by simp[num]at z,h⟩
 . cases e;exact⟨trivial,fun _=>hs,h⟩
 . cases e;exact sp1 _ _ (by simp) (sp1 _ _ (by simp) (sp1 _ _ (by simp) h))
 . cases e;exact sp1 _ _ (by simp) (sp1 _ _ (by simp) (sp1 _ _ (by simp) h))
 . cases e;exact sp1 _ _ (by simp) (sp1 _ _ (by simp) (sp1 _ _ (by simp) (sp1 _ _ (by simp) h)))
 . exact Aa hs h e
theorem yJ:∀(P:List Int) (st:List It),(tk st P).2=P.length->Goes st P (tk st P).1
 |[],st,_=>Goes.nil _
 | b ::P,st,h=>by
   unfold tk at h
   have e:(gon st b).2=true:=by
    cases q:(gon st b).2 with
    |true=>rfl
    |false=>rw[q]at h;simp at h
   rw[if_pos e]at h
   have e2:tk st (b ::P)=((tk (gon st b).1 P).1,(tk (gon st b).1 P).2+1):=by rw[tk,if_pos e]
   rw[e2];have ih:=yJ P (gon st b).1 (by simp only[List.length_cons]at h;omega);intro r;have:=ih r;show tk st (b ::(P++r))=_;rw[tk,if_pos e,this];simp only[List.length_cons]
   congr 1
theorem dG{it:It}{st:List It}(h1:spk it)(h2:num it=false)(h:Okk st):Okk (it ::st):=⟨h1,(fun z=>by rw[h2]at z;cases z),h⟩
theorem Cc:∀{l st:List It},(∀ it∈l,spk it /\ num it=false)->Okk st->Okk (l++st)
 |[],st,_,h=>h
 |it ::l,st,hl,h=>dG (hl it List.mem_cons_self).1 (hl it List.mem_cons_self).2 (Cc (fun x hx=>hl x (List.mem_cons_of_mem _ hx)) h)
theorem FV(st:List It):Stp (.bg ::.mrow ::st):=fun b r e=>by cases e;exact zf
theorem H0(st:List It):Stp (.bg ::.mfields ::st):=fun b r e=>by cases e;exact xf
theorem wO{st:List It}(h:Okk st):Okk (qq++st):=by
 refine dG (it:=.bg) trivial rfl (dG (it:=.sp 58 58) ⟨Int.le_refl _,rfl,by decide,by decide⟩ rfl (dG (it:=.bg) trivial rfl ⟨trivial,fun _=>H0 st,dG (it:=.bg) trivial rfl (dG (it:=.mfields) trivial rfl h)⟩))
theorem yp{lo hi:Int}(h:lo<=hi)(h1:lo=128 \/ lo=144 \/ lo=160 \/ lo=92 \/ lo=117 \/ lo=48):spk (.sp lo hi) /\ num (.sp lo hi)=false:=by
 refine⟨⟨h,?_⟩,rfl⟩
 rcases h1 with z|z|z|z|z|z<;>subst z<;>exact⟨rfl,by decide,by decide⟩
theorem GI{b:Int}{l:List It}(e:tls b=some l):∀ it∈l,spk it /\ num it=false:=by
 have key:∀ x:It,(x=.sp 128 191 \/ x=.sp 160 191 \/ x=.sp 128 159 \/ x=.sp 144 191 \/ x=.sp 128 143)->spk x /\ num x=false:=by
  intro x hx
  rcases hx with z|z|z|z|z<;>rw[z]<;>exact yp (by decide) (by simp)
 unfold tls at e;intro it hi
 repeat' split at e
 all_goals first
  |(cases e;simp at hi;done)
  |(cases e;simp only[List.mem_cons,List.not_mem_nil,or_false]at hi;apply key;rcases hi with z|z|z<;>simp[z])
  |(cases e;simp only[List.mem_cons,List.not_mem_nil,or_false]at hi;apply key;rcases hi with z|z<;>simp[z])
  |(cases e;simp only[List.mem_cons,List.not_mem_nil,or_false]at hi;apply key;simp[hi])
  |cases e
theorem K3{it:It}{st l:List It}{b:Int}(h:Okk (it ::st))(e:bh it b=some l):Okk (l++st):=by
 have hst:=h.2.2
 cases it with
 |sp lo hi=>simp only[bh]at e;split at e<;>cases e;exact hst
 |bg=>simp only[bh]at e;split at e<;>cases e;exact dG trivial rfl hst
 |value=>exact Cn (h.2.1 rfl) hst e
 |lead=>exact Aa (h.2.1 rfl) hst e
 |figures=>simp only[bh]at e;split at e<;>cases e;exact⟨trivial,h.2.1,hst⟩
 |fraction=>simp only[bh]at e;split at e<;>cases e;exact dG ⟨by decide,rfl,by decide,by decide⟩ rfl ⟨trivial,fun _=>h.2.1 rfl,hst⟩
 |exponent=>simp only[bh]at e;split at e<;>cases e;exact dG (it:=.sign) trivial rfl (dG ⟨by decide,rfl,by decide,by decide⟩ rfl ⟨trivial,fun _=>h.2.1 rfl,hst⟩)
 |sign=>simp only[bh]at e;split at e<;>cases e;exact hst
 | text=>
   simp only[bh,rK]at e;split at e
   . cases e;exact hst
   . split at e
     . cases e;exact dG (it:=.escape) trivial rfl (dG trivial rfl hst)
     . split at e
       . cases e
       . cases q:tls b with
         |none=>rw[q]at e;cases e
         | some l'=>
           rw[q]at e;cases e;rw[List.append_assoc];exact Cc (GI q) (dG (it:=.text) trivial rfl hst)
 | escape=>
   simp only[bh,Dr]at e;split at e
   . cases e;exact dG trivial rfl hst
   . split at e<;>cases e;exact hst
 | code=>
   simp only[bh]at e
   cases q:ee b with
   |none=>rw[q]at e;cases e
   | some w=>
     rw[q]at e;simp only[Option.bind_some]at e
     split at e<;>cases e
     . exact dG trivial rfl hst
     . exact dG (it:=.hex) trivial rfl (dG (it:=.hex) trivial rfl (dG trivial rfl hst))
 | coded=>
   simp only[bh]at e
   cases q:ee b with
   |none=>rw[q]at e;cases e
   | some w=>
     rw[q]at e;simp only[Option.bind_some,yk]at e
     have two:Okk ([.hex,.hex]++st):=dG (it:=.hex) trivial rfl (dG trivial rfl hst)
     split at e
     . cases e;exact two
     . split at e<;>cases e
       exact dG (it:=.hex) trivial rfl (dG (it:=.hex) trivial rfl (dG (yp (by decide) (by simp)).1 rfl (dG (yp (by decide) (by simp)).1 rfl (dG (it:=.hexd) trivial rfl (dG (it:=.hexcf) trivial rfl two)))))
 | hex=>
   simp only[bh]at e
   cases q:ee b with
   |none=>rw[q]at e;cases e
   |some w=>rw[q]at e;cases e;exact hst
 | hexd=>
   simp only[bh]at e
   cases q:ee b with
   |none=>rw[q]at e;cases e
   |some w=>rw[q]at e;simp only[Option.bind_some]at e;split at e<;>cases e;exact hst
 | hexcf=>
   simp only[bh]at e
   cases q:ee b with
   |none=>rw[q]at e;cases e
   |some w=>rw[q]at e;simp only[Option.bind_some]at e;split at e<;>cases e;exact hst
 | row=>
   simp only[bh]at e;split at e
   . cases e;exact hst
   . cases q:jm b with
     |none=>rw[q]at e;cases e
     | some l'=>
       rw[q]at e;cases e;rw[List.append_assoc];exact Cn (FV st) (dG (it:=.bg) trivial rfl (dG (it:=.mrow) trivial rfl hst)) q
 | mrow=>
   simp only[bh]at e;split at e
   . cases e;exact dG (it:=.bg) trivial rfl ⟨trivial,fun _=>FV st,dG (it:=.bg) trivial rfl (dG (it:=.mrow) trivial rfl hst)⟩
   . split at e<;>cases e;exact hst
 | fields=>
   simp only[bh]at e;split at e
   . cases e;exact hst
   . split at e<;>cases e;exact dG (it:=.text) trivial rfl (wO hst)
 | mfields=>
   simp only[bh]at e;split at e
   . cases e;exact dG (it:=.bg) trivial rfl (dG (it:=.name) trivial rfl (wO hst))
   . split at e<;>cases e;exact hst
 |name=>simp only[bh]at e;split at e<;>cases e;exact dG trivial rfl hst
theorem Cy:∀{st:List It} {b:Int} {st':List It},Okk st->gon st b=(st',true)->Okk st' /\ cnt st'<=64
 |[],b,st',_,k=>by simp[gon]at k
 | it ::st,b,st',h,k=>by
   unfold gon at k
   cases e:bh it b with
   | some l=>
     rw[e]at k;simp only[Prod.mk.injEq,decide_eq_true_eq]at k;rw[<- k.1]
     exact⟨K3 h e,k.2⟩
   | none=>
     rw[e]at k;simp only at k;split at k
     . exact Cy h.2.2 k
     . simp at k
theorem FI:∀(P:List Int) {st:List It},Okk st->cnt st<=64->(tk st P).2=P.length->Okk (tk st P).1 /\ cnt (tk st P).1<=64
 |[],st,h,hc,_=>⟨h,hc⟩
 | b ::P,st,h,hc,k=>by
   unfold tk at k
   have e:(gon st b).2=true:=by
    cases q:(gon st b).2 with
    |true=>rfl
    |false=>rw[q]at k;simp at k
   rw[if_pos e]at k;have g:=Cy (st':=(gon st b).1) h (by rw[<- e])
   have e2:tk st (b ::P)=((tk (gon st b).1 P).1,(tk (gon st b).1 P).2+1):=by rw[tk,if_pos e]
   rw[e2];exact FI P g.1 g.2 (by simp only[List.length_cons]at k;omega)
theorem Ex{P:List Int}(h:(tk st0 P).2=P.length):flt (P++ends (tk st0 P).1)=none:=by
 have hg:=yJ P st0 h
 have h0:Okk st0:=dG (it:=.bg) trivial rfl ⟨trivial,(fun _ b r e=>by cases e),dG (it:=.bg) trivial rfl trivial⟩
 obtain⟨h1,h2⟩:=FI P h0 (by decide) h;obtain⟨st',k1,k2⟩:=xi h1 h2
 exact(hg.trans k2).flt k1
theorem ends_app(l st:List It):ends (l++st)=ends l++ends st:=by unfold ends;rw[List.flatMap_append]
theorem CU{st c:List It}{b:Int}{bs:List Int}(h:Goes (.value ::st) (b ::bs) c):∃ l,jm b=some l:=by
 have hw:=h.whole
 cases e:jm b with
 |some l=>exact⟨l,rfl⟩
 | none=>
   unfold tk at hw
   have:gon (.value ::st) b=(st,false):=by
    unfold gon;rw[show bh .value b=none from e];rfl
   rw[this]at hw;simp at hw
theorem A5{b:Int}{l:List It}(h:jm b=some l):wht b=false /\ b≠93:=by
 have h1:∀ c:Int,(c=32 \/ c=9 \/ c=10 \/ c=13 \/ c=93)->jm c=none:=by
  intro c hc
  rcases hc with z|z|z|z|z<;>subst z<;>rfl
 refine⟨?_,fun z=>by rw[h1 b (by omega)]at h;cases h⟩
 cases hw:wht b with
 |false=>rfl
 | true=>
   unfold wht at hw;simp only[Bool.or_eq_true,decide_eq_true_eq]at hw;rw[h1 b (by omega)]at h;cases h
theorem Jd(x:Lf)(hx:Lok x):lfb x≠[]:=by
 cases x with
 |wd w=>cases w<;>simp[lfb,wdb]
 |tx l=>simp[lfb,txt]
 | nm m=>
   intro q
   have q':nb m=[]:=q
   unfold nb at q';simp at q'
   rcases hx.ip with z|⟨d,r,z,_⟩<;>rw[z]at q'<;>simp at q'
structure Tr where
 s:String
 a:Int
 b:Int
inductive Ph where|emp|aft|val|nam|col
 deriving DecidableEq
def isB(s:String):Bool:=decide (s = "row")||decide (s = "fields")
def isT(s:String):Bool:=decide (s = "name")||decide (s = "text")
def kNm(k:Bool):String:=if k then "row" else "fields"
def clo(s:String):Int:=if s = "fields" then 125 else 93
def hld(t:Nat)(d:Tr):Bool:=decide (d.a<t)&&(decide (d.b=0)||decide ((t:Int)<d.b))
def hs(T:List Tr)(t:Nat):List String:=T.filterMap fun d:Tr=>if hld t d then some d.s else none
def tl(T:List Tr)(t:Nat):List (String×Int):=T.filterMap fun d:Tr=>if isT d.s&&decide (d.b<=(t:Int))then some (d.s,d.b)else none
def tkS(o:Option (String×Int))(x:String×Int):Option (String×Int):=match o with
 |none=>some x
 |some y=>if y.2<x.2 then some x else some y
def AA(l:List (String×Int)):Option (String×Int):=l.foldl tkS none
def nwB(row:List Int):Option Int:=(row.filter fun b=>!wht b).getLast?
def Dl(l:Option Int)(o:Option (String×Int))(h:Option String):Option (List Int):=l.bind fun l=>
 if l=34 then o.map fun x=>if x.1 = "name" then[58,48]else[]
 else if l=44 then some (if h=some "fields" then[34,34,58,48]else[48])
 else if l=58 then some [48]else some []
def Cut(row:List Int)(T:List Tr)(t:Nat):Prop:=
 (∀ h∈hs T t,isB h=true)->hs T t≠[]->∃ p,Dl (nwB (row.take t)) (AA (tl T t)) (hs T t).getLast?=some p /\ ends (tk st0 (row.take t)).1=p++(hs T t).reverse.map clo
def Vl(p:Ph)(K:List (Bool×Nat)):Prop:=p=.val \/ (p=.emp /\ ∃ i K',K=(true,i) ::K')
def lfN:Lf->String
 |.wd .null=>"null" | .wd .tru=>"true" | .wd .fal=>"false" | .tx _=>"text" | .nm _=>"number"
inductive Pc:List Int->List Tr->List (Bool×Nat)->Ph->Prop
 |start:Pc [] [] [] .val
 |bg {row:List Int} {T:List Tr} {K:List (Bool×Nat)} {p:Ph} {b:Int}:Pc row T K p->wht b=true->Pc (row++[b]) T K p
 |comma {row:List Int} {T:List Tr} {K:List (Bool×Nat)} {k:Bool} {i:Nat}:Pc row T ((k,i) ::K) .aft->Pc (row++[44]) T ((k,i) ::K) (if k then .val else .nam)
 |name {row:List Int} {T:List Tr} {K:List (Bool×Nat)} {p:Ph} {i:Nat} {l:List Sg}:Pc row T ((false,i) ::K) p->(p=.nam \/ p=.emp)->(∀ s∈l,Sok s)->Pc (row++txt l) (T++[⟨"name",row.length,(row++txt l).length⟩]) ((false,i) ::K) .col
 |colon {row:List Int} {T:List Tr} {K:List (Bool×Nat)}:Pc row T K .col->Pc (row++[58]) T K .val
 |opn {row:List Int} {T:List Tr} {K:List (Bool×Nat)} {p:Ph} {k:Bool}:Pc row T K p->Vl p K->K.length<=60->Pc (row++[if k then 91 else 123]) (T++[⟨kNm k,row.length,0⟩]) ((k,T.length) ::K) .emp
 |leaf {row:List Int} {T:List Tr} {K:List (Bool×Nat)} {p:Ph} {x:Lf}:Pc row T K p->Vl p K->Lok x->Pc (row++lfb x) (T++[⟨lfN x,row.length,(row++lfb x).length⟩]) K .aft
 |close {row:List Int} {T:List Tr} {K:List (Bool×Nat)} {p:Ph} {k:Bool} {i:Nat}:Pc row T ((k,i) ::K) p->(p=.emp \/ p=.aft)->Pc (row++[if k then 93 else 125]) (T.modify i fun d=>{ d with b:=row.length+1 }) K .aft
theorem Pc.nI{row:List Int}{T:List Tr}{K:List (Bool×Nat)}{p:Ph}:∀{ws:List Int},Pc row T K p->(∀ b∈ws,wht b=true)->Pc (row++ws) T K p
 |[],h,_=>by rw[List.append_nil];exact h
 | w ::ws,h,hw=>by
   rw[show row++w ::ws=(row++[w])++ws by simp]
   exact Pc.nI (h.bg (hw w List.mem_cons_self)) fun b hb=>hw b (List.mem_cons_of_mem _ hb)
def Opn:List (Bool×Nat)->List Tr->Prop
 |[],T=>∀ d∈T,d.b≠0
 |(k,i) ::K,T=>∃ A d C,T=A++d ::C /\ A.length=i /\ d.b=0 /\ d.s=kNm k /\ (∀ x∈C,x.b≠0) /\ Opn K A
theorem Opn.app{K:List (Bool×Nat)}{T X:List Tr}(h:Opn K T)(hx:∀ x∈X,x.b≠0):Opn K (T++X):=by
 cases K with
 | nil=>
   intro d hd
   rcases List.mem_append.mp hd with z|z
   . exact h d z
   . exact hx d z
 | cons ki K=>
   obtain⟨A,d,C,e,h1,h2,h3,h4,h5⟩:=h
   refine⟨A,d,C++X,by rw[e];simp,h1,h2,h3,fun x hxx=>?_,h5⟩
   rcases List.mem_append.mp hxx with z|z
   . exact h4 x z
   . exact hx x z
def op0(T:List Tr):List String:=T.filterMap fun d=>if d.b=0 then some d.s else none
theorem BS{T:List Tr}(h:∀ d∈T,d.b≠0):op0 T=[]:=by
 unfold op0;rw[List.filterMap_eq_nil_iff];intro d hd;rw[if_neg (h d hd)]
theorem Opn.op0:∀{K:List (Bool×Nat)} {T:List Tr},Opn K T->op0 T=(K.map fun x=>kNm x.1).reverse
 |[],T,h=>BS h
 | (k,i) ::K,T,⟨A,d,C,e,h1,h2,h3,h4,h5⟩=>by
   have:=Opn.op0 h5;have hc:=BS h4
   unfold PG.op0 at this hc ⊢
   rw[e,List.filterMap_append,List.filterMap_cons,this,hc];simp[h2,h3]
theorem vR{α:Type}{f g:Tr->Option α}:∀{l:List Tr},(∀ d∈l,f d=g d)->l.filterMap f=l.filterMap g
 |[],_=>rfl
 |d ::l,h=>by rw[List.filterMap_cons,List.filterMap_cons,h d List.mem_cons_self,vR fun x hx=>h x (List.mem_cons_of_mem _ hx)]
theorem KR{T:List Tr}{n:Nat}(h:∀ d∈T,d.a<n /\ d.b<=n):hs T n=op0 T:=by
 unfold hs op0
 refine vR fun d hd=>?_
 have:=h d hd
 have e:hld n d=decide (d.b=0):=by
  unfold hld
  by_cases z:d.b=0
  . simp[z,this.1]
  . have:¬ (n:Int)<d.b:=by omega
    simp[z,this]
 rw[e]
 by_cases z:d.b=0<;>simp[z]
theorem AH{T:List Tr}{d:Tr}{t:Nat}(h:(t:Int)<=d.a):hs (T++[d]) t=hs T t:=by
 unfold hs;rw[List.filterMap_append]
 have:hld t d=false:=by unfold hld;simp;omega
 simp[this]
theorem AD{T:List Tr}{d:Tr}{t:Nat}(h:isT d.s=false \/ (t:Int)<d.b):tl (T++[d]) t=tl T t:=by
 unfold tl;rw[List.filterMap_append]
 have:(isT d.s&&decide (d.b<=t))=false:=by
  rcases h with z|z
  . rw[z];rfl
  . rw[Bool.and_eq_false_iff];right;simpa using z
 rw[List.filterMap_cons,this];exact List.append_nil _
theorem Iq(k:Bool):isT (kNm k)=false:=by cases k<;>rfl
theorem Hg{A C:List Tr}{d:Tr}{f:Tr->Tr}{i:Nat}(h:A.length=i):(A++d ::C).modify i f=A++f d ::C:=by
 subst h
 induction A with
 |nil=>rfl
 |cons x A ih=>simp[ih]
theorem EC{row x:List Int}{T T':List Tr}{t:Nat}(ht:t<=row.length)(h1:hs T' t=hs T t)(h2:tl T' t=tl T t)(h:Cut row T t):Cut (row++x) T' t:=by
 unfold Cut at h ⊢
 rw[h1,h2,List.take_append_of_le_length ht];exact h
def sta:Ph->List Bool->List It
 |.emp,k ::K=>stk k true K
 |.emp,[]=>[]
 |.aft,K=>out K
 |.val,K=>.bg ::.value ::out K
 |.nam,K=>.bg ::.name ::.bg ::.sp 58 58 ::.bg ::.value ::out K
 |.col,K=>.bg ::.sp 58 58 ::.bg ::.value ::out K
def pre:Ph->List Int
 |.emp=>[]|.aft=>[]|.val=>[48]|.nam=>[34,34,58,48]|.col=>[58,48]
def bks(K:List (Bool×Nat)):List Bool:=K.map Prod.fst
theorem lE:∀ K:List Bool,ends (out K)=K.map fun k=>if k then 93 else 125
 |[]=>rfl
 | k ::K=>by
   have:=lE K;unfold out;rw[dO,dO,this]
   cases k<;>rfl
theorem DW(p:Ph)(K:List Bool)(h:p=.emp->K≠[]):ends (sta p K)=pre p++K.map fun k=>if k then 93 else 125:=by
 cases p with
 | emp=>
   cases K with
   |nil=>exact absurd rfl (h rfl)
   |cons k K=>unfold sta stk;rw[dO,dO,lE];cases k<;>rfl
 |aft=>exact lE K
 |val=>unfold sta;rw[dO,dO,lE];rfl
 |nam=>unfold sta;simp only[dO,lE];rfl
 |col=>unfold sta;simp only[dO,lE];rfl
theorem nA:∀{ls st:List It},ls.all loose=true->ends (ls++st)=ends st
 |[],_,_=>rfl
 | it ::ls,st,h=>by
   rw[List.all_cons,Bool.and_eq_true]at h;rw[List.cons_append,dO,qa.mpr h.1,nA h.2];rfl
structure Inv(row:List Int)(T:List Tr)(K:List (Bool×Nat))(p:Ph):Prop where
 dep:K.length<=61
 w1:p=.aft->Gs st0 row (out (bks K))
 w2:p≠.aft->Goes st0 row (sta p (bks K))
 ph:p=.nam->∃ i K',K=(false,i) ::K'
 pe:p=.emp->K≠[]
 op:Opn K T
 bd:∀ d∈T,d.a<row.length /\ d.b<=row.length
 pr:K≠[]->Dl (nwB row) (AA (tl T row.length)) (K.head?.map fun x=>kNm x.1)=some (pre p)
 ct:∀ t<row.length,Cut row T t
theorem rl{row:List Int}{st:List It}(h:Goes st0 row st):tk st0 row=(st,row.length):=by
 have:=h [];rw[List.append_nil]at this;rw[this];simp[tk]
theorem Inv.ends{row:List Int}{T:List Tr}{K:List (Bool×Nat)}{p:Ph}(h:Inv row T K p):ends (tk st0 row).1=pre p++(bks K).map fun k=>if k then 93 else 125:=by
 by_cases e:p=.aft
 . obtain⟨ls,h1,h2⟩:=h.w1 e;rw[rl h2,nA (yU h1),lE,e];rfl
 . rw[rl (h.w2 e),DW];intro z y;exact h.pe z (by simpa [bks]using y)
theorem Ky{row:List Int}{T:List Tr}{K:List (Bool×Nat)}{p:Ph}(h:Inv row T K p):hs T row.length=(K.map fun x=>kNm x.1).reverse:=by
 rw[KR h.bd,h.op.op0]
theorem Inv.now{row:List Int}{T:List Tr}{K:List (Bool×Nat)}{p:Ph}(h:Inv row T K p):Cut row T row.length:=by
 intro _ hne
 rw[Ky h]at hne ⊢
 have hK:K≠[]:=by intro z;rw[z]at hne;exact hne rfl
 refine⟨pre p,?_,?_⟩
 . rw[List.take_length,List.getLast?_reverse,List.head?_map];exact h.pr hK
 . rw[List.take_length,h.ends,List.reverse_reverse];unfold bks;rw[List.map_map,List.map_map]
   congr 1
   refine List.map_congr_left fun x _=>?_
   show(if x.1 then(93:Int)else 125)=clo (kNm x.1)
   cases x.1<;>rfl
theorem Inv.le{row:List Int}{T:List Tr}{K:List (Bool×Nat)}{p:Ph}(h:Inv row T K p)(t:Nat)(ht:t<=row.length):Cut row T t:=by
 rcases Nat.lt_or_eq_of_le ht with z|z
 . exact h.ct t z
 . rw[z];exact h.now
theorem yL{row x:List Int}{T T':List Tr}{K:List (Bool×Nat)}{p:Ph}(h:Inv row T K p)(hs1:∀ t,t<=row.length->hs T' t=hs T t /\ tl T' t=tl T t)(hin:∀ t,row.length<t->t<(row++x).length->Cut (row++x) T' t):∀ t<(row++x).length,Cut (row++x) T' t:=by
 intro t ht
 by_cases z:t<=row.length
 . exact EC z (hs1 t z).1 (hs1 t z).2 (h.le t z)
 . exact hin t (by omega) ht
theorem sQ{row:List Int}{b:Int}{T T':List Tr}{K:List (Bool×Nat)}{p:Ph}(h:Inv row T K p)(hs1:∀ t,t<=row.length->hs T' t=hs T t /\ tl T' t=tl T t):∀ t<(row++[b]).length,Cut (row++[b]) T' t:=
 yL h hs1 fun t h1 h2=>by simp at h2;omega
theorem FG{row x:List Int}{T:List Tr}{s:String}{t:Nat}(hb:isB s=false)(h1:row.length<t)(h2:t<(row++x).length):Cut (row++x) (T++[⟨s,row.length,(row++x).length⟩]) t:=by
 intro hall _
 have:s∈hs (T++[⟨s,row.length,(row++x).length⟩]) t:=by
  unfold hs;rw[List.filterMap_append,List.mem_append];right
  have:hld t ⟨s,row.length,(row++x).length⟩=true:=by
   unfold hld;simp only[Bool.and_eq_true,Bool.or_eq_true,decide_eq_true_eq];omega
  rw[List.filterMap_cons,this];exact List.mem_cons_self
 rw[hall s this]at hb;cases hb
theorem IK{T:List Tr}{n m:Nat}(h:∀ d∈T,d.a<n /\ d.b<=n)(hm:n<=m):tl T m=tl T n:=by
 unfold tl
 refine vR fun d hd=>?_
 have:=h d hd
 have e1:decide (d.b<=(m:Int))=true:=by simp;omega
 have e2:decide (d.b<=(n:Int))=true:=by simp;omega
 rw[e1,e2]
theorem Eh(l:List (String×Int)):∀ y,AA l=some y->y∈l:=by
 unfold AA
 have:∀(l:List (String×Int)) (o:Option (String×Int)) (y:String×Int),l.foldl tkS o=some y->y∈l \/ o=some y:=by
  intro l
  induction l with
  |nil=>intro o y h;exact .inr h
  | cons x l ih=>
    intro o y h;rw[List.foldl_cons]at h
    rcases ih _ y h with z|z
    . exact .inl (List.mem_cons_of_mem _ z)
    . unfold tkS at z;split at z
      . cases z;exact .inl List.mem_cons_self
      . split at z
        . cases z;exact .inl List.mem_cons_self
        . exact .inr z
 intro y h
 rcases this l none y h with z|z
 . exact z
 . cases z
theorem Du{l:List (String×Int)}{x:String×Int}(h:∀ y∈l,y.2<x.2):AA (l++[x])=some x:=by
 have hm:=Eh l
 unfold AA at hm ⊢
 rw[List.foldl_append]
 cases e:l.foldl tkS none with
 |none=>rfl
 |some y=>simp only[List.foldl_cons,List.foldl_nil,tkS];rw[if_pos (h y (hm y e))]
theorem Ct{row x:List Int}{T:List Tr}{s:String}(h:∀ d∈T,d.a<row.length /\ d.b<=row.length)(hs:isT s=true)(hx:x≠[]):AA (tl (T++[⟨s,row.length,(row++x).length⟩]) (row++x).length)=some (s,((row++x).length:Int)):=by
 have hl:row.length<(row++x).length:=by
  have:=List.length_pos_iff.mpr hx
  simp;omega
 have e:tl (T++[⟨s,row.length,(row++x).length⟩]) (row++x).length=tl T row.length++[(s,((row++x).length:Int))]:=by
  rw[<- IK h (Nat.le_of_lt hl)];unfold tl;rw[List.filterMap_append]
  congr 1
  simp[hs]
 rw[e]
 refine Du fun y hy=>?_
 unfold tl at hy;rw[List.mem_filterMap]at hy;obtain⟨d,hd,hd2⟩:=hy;split at hd2
 . cases hd2;have:=h d hd;simp only;omega
 . cases hd2
theorem Ds(row:List Int)(b:Int)(hw:wht b=true):nwB (row++[b])=nwB row:=by
 unfold nwB;rw[List.filter_append];simp[hw]
theorem kU(row:List Int)(b:Int)(hb:wht b=false):nwB (row++[b])=some b:=by
 unfold nwB;rw[List.filter_append];simp[hb]
theorem len_app(row:List Int)(b:Int):(row++[b]).length=row.length+1:=by simp
theorem p9{row x:List Int}{T:List Tr}(h:∀ d∈T,d.a<row.length /\ d.b<=row.length):∀ d∈T,d.a<(row++x).length /\ d.b<=(row++x).length:=fun d hd=>by
 have:=h d hd;rw[List.length_append];omega
theorem Mc(st:List It):cnt (.bg ::st)=cnt st:=by rw[cnt_cons];simp[PG.opn]
theorem IT{p:Ph}{K:List Bool}(hK:K.length<=62)(he:p=.emp->K≠[]):∃ st,sta p K=.bg ::st /\ cnt st<=64:=by
 have ho:=jk K
 cases p with
 | emp=>
   cases K with
   |nil=>exact absurd rfl (he rfl)
   | cons k K=>
     refine⟨_,rfl,?_⟩
     have:=jk K;rw[cnt_cons,this];simp only[List.length_cons]at hK
     split<;>omega
 | aft=>
   cases K with
   |nil=>exact⟨[],rfl,by decide⟩
   | cons k K=>
     refine⟨_,rfl,?_⟩
     have:cnt (out (k ::K))=cnt (.bg ::(if k then It.mrow else It.mfields) ::out K):=rfl
     rw[Mc]at this;rw[<- this,ho];omega
 |val=>exact⟨_,rfl,by rw[cnt_cons,ho];simp[PG.opn];omega⟩
 |nam=>exact⟨_,rfl,by simp only[cnt_cons,ho];simp[PG.opn];omega⟩
 |col=>exact⟨_,rfl,by simp only[cnt_cons,ho];simp[PG.opn];omega⟩
theorem lN(K:List (Bool×Nat)):(bks K).length=K.length:=by simp[bks]
theorem Inv.bg{row:List Int}{T:List Tr}{K:List (Bool×Nat)}{p:Ph}{b:Int}(h:Inv row T K p)(hb:wht b=true):Inv (row++[b]) T K p:=by
 have hd:=h.dep
 have hK:(bks K).length<=62:=by rw[lN];omega
 have hw:∀ c∈[b],wht c=true:=fun c hc=>by simp at hc;rw[hc];exact hb
 refine⟨hd,fun e=>?_,fun e=>?_,h.ph,h.pe,h.op,p9 h.bd,fun hn=>?_,sQ h fun t _=>⟨rfl,rfl⟩⟩
 . obtain⟨st,e1,e2⟩:=IT (p:=.aft) hK (fun z=>by cases z);have:=h.w1 e
   change out (bks K)=_ at e1
   rw[e1]at this ⊢
   exact this.bg e2 hw
 . obtain⟨st,e1,e2⟩:=IT (p:=p) hK (fun z y=>h.pe z (by simpa [bks]using y));have:=h.w2 e
   rw[e1]at this ⊢
   exact this.trans (nO e2 [b] hw)
 . rw[Ds _ _ hb,IK h.bd (by simp)];exact h.pr hn
theorem Inv.comma{row:List Int}{T:List Tr}{K:List (Bool×Nat)}{k:Bool}{i:Nat}(h:Inv row T ((k,i) ::K) .aft):Inv (row++[44]) T ((k,i) ::K) (if k then .val else .nam):=by
 have hd:=h.dep;simp only[List.length_cons]at hd
 have hK:(bks K).length<64:=by rw[lN];omega
 have hw:=h.w1 rfl
 refine⟨h.dep,fun e=>?_,fun e=>?_,fun e=>?_,fun e=>(by simp),h.op,p9 h.bd,fun hn=>?_,sQ h fun t _=>⟨rfl,rfl⟩⟩
 . cases k<;>cases e
 . cases k with
   |true=>exact Gs.CG (fs:=bks K) hw hK
   |false=>exact Gs.xK (fs:=bks K) hw hK
 . cases k with
   |true=>cases e
   |false=>exact⟨i,K,rfl⟩
 . rw[kU _ _ rfl]
   cases k<;>simp[Dl,kNm,pre]
theorem B2(row:List Int)(l:List Sg):nwB (row++txt l)=some 34:=by
 have:row++txt l=(row++34 ::inner l)++[34]:=by simp[txt]
 rw[this,kU _ _ rfl]
theorem Inv.name{row:List Int}{T:List Tr}{K:List (Bool×Nat)}{p:Ph}{i:Nat}{l:List Sg}(h:Inv row T ((false,i) ::K) p)(hp:p=.nam \/ p=.emp)(hl:∀ s∈l,Sok s):Inv (row++txt l) (T++[⟨"name",row.length,(row++txt l).length⟩]) ((false,i) ::K) .col:=by
 have hd:=h.dep;simp only[List.length_cons]at hd
 have hK:(bks K).length<64:=by rw[lN];omega
 have hx:txt l≠[]:=by simp[txt]
 have hlen:row.length<(row++txt l).length:=by simp[txt]
 refine⟨h.dep,fun e=>(by cases e),fun _=>?_,fun e=>(by cases e),fun e=>(by cases e),?_,?_,fun _=>?_,?_⟩
 . rcases hp with z|z
   . subst z
     have hc:cnt (.bg ::.sp 58 58 ::.bg ::.value ::out (bks ((false,i) ::K)))<=64:=by
      have:=jk (bks ((false,i) ::K));simp only[cnt_cons,this,lN];simp[PG.opn];omega
     exact(h.w2 (by simp)).trans (.past rfl (C6 hc l hl))
   . subst z
     exact(h.w2 (by simp)).trans (.past rfl (As (fs:=bks K) hK l hl))
 . refine h.op.app fun x hxx=>?_
   simp only[List.mem_singleton]at hxx;rw[hxx];simp only;omega
 . intro d hdd
   rcases List.mem_append.mp hdd with z|z
   . exact p9 h.bd d z
   . simp only[List.mem_singleton]at z;rw[z];simp only;omega
 . rw[B2,Ct h.bd rfl hx];rfl
 . refine yL h (fun t ht=>⟨AH (by simp only;omega),AD (.inr (by simp only;omega))⟩) fun t h1 h2=>FG rfl h1 h2
theorem Inv.colon{row:List Int}{T:List Tr}{K:List (Bool×Nat)}(h:Inv row T K .col):Inv (row++[58]) T K .val:=by
 have hd:=h.dep
 have hc:cnt (.value ::out (bks K))<=64:=by
  have:=jk (bks K);rw[cnt_cons,this,lN];simp[PG.opn];omega
 refine⟨hd,fun e=>(by cases e),fun _=>?_,fun e=>(by cases e),fun e=>(by cases e),h.op,p9 h.bd,fun _=>?_,sQ h fun t _=>⟨rfl,rfl⟩⟩
 . exact(h.w2 (by simp)).trans (A3 (ws:=[]) hc (fun _ z=>by cases z))
 . rw[kU _ _ rfl];rfl
theorem Inv.rdy{row:List Int}{T:List Tr}{K:List (Bool×Nat)}{p:Ph}(h:Inv row T K p)(hv:Vl p K){b:Int}{bs:List Int}{c:List It}(k:Goes (.value ::out (bks K)) (b ::bs) c):Goes st0 (row++b ::bs) c:=by
 obtain⟨l,hl⟩:=CU k
 rcases hv with z|⟨z,i,K',e⟩
 . subst z
   exact(h.w2 (by simp)).trans (.past (A5 hl).1 k)
 . subst z;subst e
   exact(h.w2 (by simp)).trans (.past (A5 hl).1 (Bq (fs:=bks K') hl (A5 hl).2 k))
theorem Inv.opn{row:List Int}{T:List Tr}{K:List (Bool×Nat)}{p:Ph}{k:Bool}(h:Inv row T K p)(hv:Vl p K)(hK:K.length<=60):Inv (row++[if k then 91 else 123]) (T++[⟨kNm k,row.length,0⟩]) ((k,T.length) ::K) .emp:=by
 refine⟨by simp;omega,fun e=>(by cases e),fun _=>?_,fun e=>(by cases e),fun _=>(by simp),⟨T,_,[],rfl,rfl,rfl,rfl,fun x hx=>(by cases hx),h.op⟩,?_,fun _=>?_,?_⟩
 . exact h.rdy hv (CF (fs:=bks K) k (by rw[lN];omega))
 . intro d hdd
   rcases List.mem_append.mp hdd with z|z
   . exact p9 h.bd d z
   . simp only[List.mem_singleton]at z;rw[z,len_app];simp only;omega
 . rw[kU _ _ (by cases k<;>rfl)]
   cases k<;>rfl
 . exact sQ h fun t ht=>⟨AH (by simp only;omega),AD (.inl (Iq k))⟩
theorem FN{m:Nm}(h:Nok m):∀ b∈nb m,43<=b /\ b≠44 /\ b≠58:=by
 have hF:∀ b:Int,isF b->43<=b /\ b≠44 /\ b≠58:=fun b hb=>by unfold isF at hb;omega
 intro b hb;unfold nb at hb;simp only[List.mem_append]at hb
 rcases hb with z|z|z|z
 . split at z
   . simp at z;omega
   . cases z
 . rcases h.ip with e|⟨d,r,e,h1,h2,h3⟩
   . rw[e]at z;simp at z;omega
   . rw[e,List.mem_cons]at z
     rcases z with z|z
     . omega
     . exact hF b (h3 b z)
 . unfold frB at z;split at z
   . cases z
   . rw[List.mem_cons]at z
     rcases z with z|z
     . omega
     . exact hF b (h.fr b z)
 . cases e:m.ex with
   |none=>rw[e]at z;cases z
   | some q=>
     obtain⟨x,s,ds⟩:=q;obtain⟨h1,h2,_,h3⟩:=h.ex x s ds e;rw[e]at z;simp only[exB,List.mem_cons,List.mem_append]at z
     rcases z with z|z|z
     . omega
     . rcases h2 with y|y|y<;>rw[y]at z<;>simp at z<;>omega
     . exact hF b (h3 b z)
theorem GY(x:Lf)(hx:Lok x)(row:List Int):∃ b,nwB (row++lfb x)=some b /\ ((b=34 /\ lfN x = "text") \/ (b≠34 /\ b≠44 /\ b≠58)):=by
 cases x with
 | wd w=>
   cases w
   . exact⟨108,by rw[show row++lfb (.wd .null)=(row++[110,117,108])++[108] by simp[lfb,wdb],kU _ _ rfl],.inr (by decide)⟩
   . exact⟨101,by rw[show row++lfb (.wd .tru)=(row++[116,114,117])++[101] by simp[lfb,wdb],kU _ _ rfl],.inr (by decide)⟩
   . exact⟨101,by rw[show row++lfb (.wd .fal)=(row++[102,97,108,115])++[101] by simp[lfb,wdb],kU _ _ rfl],.inr (by decide)⟩
 |tx l=>exact⟨34,B2 row l,.inl ⟨rfl,rfl⟩⟩
 | nm m=>
   have hne:=Jd (.nm m) hx
   have e:lfb (.nm m)=(lfb (.nm m)).dropLast++[(lfb (.nm m)).getLast hne]:=(List.dropLast_concat_getLast hne).symm
   have hb:=FN hx _ (List.getLast_mem hne)
   refine⟨(lfb (.nm m)).getLast hne,?_,.inr (by omega)⟩
   conv=>lhs;rw[e]
   rw[<- List.append_assoc,kU];unfold wht;simp only[Bool.or_eq_false_iff,decide_eq_false_iff_not];omega
theorem Mq(x:Lf):isB (lfN x)=false:=by
 cases x with
 |wd w=>cases w<;>rfl
 |tx l=>rfl
 |nm m=>rfl
theorem Inv.leaf{row:List Int}{T:List Tr}{K:List (Bool×Nat)}{p:Ph}{x:Lf}(h:Inv row T K p)(hv:Vl p K)(hx:Lok x):Inv (row++lfb x) (T++[⟨lfN x,row.length,(row++lfb x).length⟩]) K .aft:=by
 have hd:=h.dep;have hne:=Jd x hx
 have hlen:row.length<(row++lfb x).length:=by
  have:=List.length_pos_iff.mpr hne
  simp;omega
 refine⟨hd,fun _=>?_,fun e=>absurd rfl e,fun e=>(by cases e),fun e=>(by cases e),?_,?_,fun hn=>?_,?_⟩
 . obtain⟨ls,h1,h2⟩:=HW (st:=out (bks K)) (by rw[jk,lN];omega) x hx
   refine⟨ls,h1,?_⟩
   cases q:lfb x with
   |nil=>exact absurd q hne
   |cons b bs=>rw[q]at h2;exact h.rdy hv h2
 . refine h.op.app fun y hy=>?_
   simp only[List.mem_singleton]at hy;rw[hy];simp only;omega
 . intro d hdd
   rcases List.mem_append.mp hdd with z|z
   . exact p9 h.bd d z
   . simp only[List.mem_singleton]at z;rw[z];simp only;omega
 . obtain⟨b,e1,e2⟩:=GY x hx row;rw[e1]
   rcases e2 with⟨rfl,e3⟩|⟨n1,n2,n3⟩
   . rw[Ct h.bd (by rw[e3];rfl) hne,e3];rfl
   . simp[Dl,n1,n2,n3,pre]
 . exact yL h (fun t ht=>⟨AH (by simp only;omega),AD (.inr (by simp only;omega))⟩) fun t h1 h2=>FG (Mq x) h1 h2
theorem Inv.close{row:List Int}{T:List Tr}{K:List (Bool×Nat)}{p:Ph}{k:Bool}{i:Nat}(h:Inv row T ((k,i) ::K) p)(hp:p=.emp \/ p=.aft):Inv (row++[if k then 93 else 125]) (T.modify i fun d=>{ d with b:=row.length+1 }) K .aft:=by
 have hd:=h.dep;simp only[List.length_cons]at hd;obtain⟨A,d,C,rfl,h1,h2,h3,h4,h5⟩:=h.op;rw[Hg h1]
 have hK:(bks K).length<=64:=by rw[lN];omega
 refine⟨by omega,fun _=>.of ?_,fun e=>absurd rfl e,fun e=>(by cases e),fun e=>(by cases e),?_,?_,fun _=>?_,?_⟩
 . rcases hp with z|z
   . subst z;exact Gs.close (fs:=bks K) k true (.of (h.w2 (by simp))) hK
   . subst z;refine Gs.close (fs:=bks K) k false ?_ hK;have:=h.w1 rfl
     cases k<;>exact this
 . refine h5.app fun x hx=>?_
   rcases List.mem_cons.mp hx with z|z
   . rw[z];simp only;omega
   . exact h4 x z
 . intro x hx;rw[len_app]
   rcases List.mem_append.mp hx with z|z
   . have:=h.bd x (List.mem_append.mpr (.inl z));omega
   . rcases List.mem_cons.mp z with z|z
     . have:=h.bd d (by simp);rw[z];simp only;omega
     . have:=h.bd x (by simp[z]);omega
 . rw[kU _ _ (by cases k<;>rfl)]
   cases k<;>rfl
 . refine sQ h fun t ht=>⟨?_,?_⟩
   . unfold hs;rw[List.filterMap_append,List.filterMap_append,List.filterMap_cons,List.filterMap_cons]
     have:hld t { d with b:=row.length+1 }=hld t d:=by
      unfold hld
      have z:¬ ((row.length:Int)+1=0):=by omega
      have z2:(t:Int)<row.length+1:=by omega
      simp[h2,z,z2]
     rw[this]
   . unfold tl;rw[List.filterMap_append,List.filterMap_append,List.filterMap_cons,List.filterMap_cons]
     have:isT d.s=false:=by rw[h3];exact Iq k
     simp only[this,Bool.false_and,Bool.false_eq_true,if_false]
theorem Pc.inv{row:List Int}{T:List Tr}{K:List (Bool×Nat)}{p:Ph}(h:Pc row T K p):Inv row T K p:=by
 induction h with
 |start=>exact⟨by simp,fun e=>(by cases e),fun _=>Goes.nil _,fun e=>(by cases e),fun e=>(by cases e),(fun d hd=>by cases hd),(fun d hd=>by cases hd),fun e=>absurd rfl e,fun t ht=>by simp at ht⟩
 |bg _ hb ih=>exact ih.bg hb
 |comma _ ih=>exact ih.comma
 |name _ hp hl ih=>exact ih.name hp hl
 |colon _ ih=>exact ih.colon
 |opn _ hv hK ih=>exact ih.opn hv hK
 |leaf _ hv hx ih=>exact ih.leaf hv hx
 |close _ hp ih=>exact ih.close hp
theorem GH{it:It}{b:Int}{l:List It}(e:bh it b=some l):(short it).length<=(ends l).length+1:=by
 cases it with
 |name=>simp only[bh]at e;split at e<;>cases e;decide
 | code=>
   simp only[bh]at e
   cases q:ee b with
   |none=>rw[q]at e;cases e
   |some w=>rw[q]at e;simp only[Option.bind_some]at e;split at e<;>cases e<;>decide
 | coded=>
   simp only[bh]at e
   cases q:ee b with
   |none=>rw[q]at e;cases e
   | some w=>
     rw[q]at e;simp only[Option.bind_some,yk]at e;split at e
     . cases e;decide
     . split at e<;>cases e;decide
 |_=>simp[short]
theorem zE:∀{st:List It} {b:Int} {st':List It},gon st b=(st',true)->(ends st).length<=(ends st').length+1
 |[],b,st',k=>by simp[gon]at k
 | it ::st,b,st',k=>by
   unfold gon at k
   cases e:bh it b with
   | some l=>
     rw[e]at k;simp only[Prod.mk.injEq,decide_eq_true_eq]at k;have:=GH e;rw[<- k.1,dO,ends_app,List.length_append,List.length_append];omega
   | none=>
     rw[e]at k;simp only at k;split at k
     . rename_i hl;rw[dO,qa.mpr hl];exact zE k
     . simp at k
theorem Cu:∀(R:List Int) (st:List It),(tk st R).2=R.length->(tk st R).1.all loose=true->(ends st).length<=R.length
 | [],st,_,h=>by
   have:=nA (st:=[]) (ls:=st) h;rw[List.append_nil]at this;rw[this];simp[ends]
 | b ::R,st,h,hl=>by
   unfold tk at h hl
   have e:(gon st b).2=true:=by
    cases q:(gon st b).2 with
    |true=>rfl
    |false=>rw[q]at h;simp at h
   rw[if_pos e]at h hl;have:=Cu R (gon st b).1 (by simp only[List.length_cons]at h;omega) hl;have g:=zE (st:=st) (b:=b) (st':=(gon st b).1) (by rw[<- e]);rw[List.length_cons];omega
end PG
namespace L2.plainglass_k09_endings
open PySem L2.P PG
def m8(c:String):Bool:=c == "Walk"
def vg:ag -> OS:=
    (aG (bb (dM (ao 0))
    (aZ (mOp nk (ao 0) (mOp cw (ao 1) (mUn xO (ao 0)))))
    aO)
    (aZ (mC (.int 0))))
def iK:List PV->OE:=fnP 2 2 vg
def uz:ag -> OS:=
    (aZ (mOp cw (mOp eX (mOp y2 (mOp dA (ao 2) (mC (.int 64))) (mC (.int 69621))) (ao 2)) (mC (.int 4294967231))))
def uo:ag -> OS:=
    (aG (bf 2 (mOp cw (mOp y2 (ao 2) (mC (.int 48271))) (mC (.int 4294967279))))
    uz)
def xt:ag -> OS:=
    (aG (bf 2 (mOp cw (mOp eX (br iK (ak (ao 0) (ak (ao 1) aJ))) (mOp y2 (mC (.int 104729)) (mOp eX (ao 1) (mC (.int 1))))) (mC (.int 4294967291))))
    uo)
def eK:List PV->OE:=fnP 2 3 xt
def jS:ag -> OS:=
    (gY 4)
def mJ:ag -> OS:=
    (aG (bb (du 2 aI)
    (aG (b0 2 (pIx 2 (pIx 2 aI (mUn gn (mC (.int 1)))) (mC (.int 1))) (mD (gk (az (mOp gEq (cF 2 (pIx 2 (pIx 2 aI (mUn gn (mC (.int 1)))) (mC (.int 0)))) (mC (.str "row")))) (ao 4) (eU (ak (cF 3 (pIx 3 aI (mC (.int 3)))) (ak (ao 4) aJ))))))
    (bb (az (mOp gEq (cF 2 (pIx 2 (pIx 2 aI (mUn gn (mC (.int 1)))) (mC (.int 0)))) (mC (.str "fields"))))
    (pB 1 (pIx 1 aI (mOp wA (cF 3 (pIx 3 aI (mC (.int 2)))) (mC (.int 1)))) (mC (.int 3)) (mD (gd 1 aI)))
    aO))
    aO)
    jS)
def jX:ag -> OS:=
    (aG (bf 4 (eU (ak (cF 3 (pIx 3 aI (mC (.int 0)))) (ak (mUn mG (cF 3 (pIx 3 aI (mC (.int 1))))) aJ))))
    mJ)
def qF:ag -> OS:=
    (aG (pB 1 (pIx 1 aI (cF 3 (pIx 3 aI (mC (.int 2))))) (mC (.int 3)) (mD (gd 1 aI)))
    jX)
def qE:ag -> OS:=
    (aG (pB 1 (pIx 1 aI (cF 3 (pIx 3 aI (mC (.int 2))))) (mC (.int 2)) (mD (gd 0 aI)))
    qF)
def qu:ag -> OS:=
    (aG (b0 0 aI (mD (gk (az (mOp gEq (cF 3 (pIx 3 aI (mC (.int 0)))) (mC (.str "row")))) (mC (.int 93)) (mC (.int 125)))))
    qE)
def pQ:ag -> OS:=
    (aG (hX 3 (qr 2 aI))
    qu)
def cS:List Sl->OI:=fnI 3 5 pQ
def jT:ag -> OE:=
    (mOp nk (bT (ak (mC (.int 32)) (ak (mC (.int 9)) (ak (mC (.int 10)) (ak (mC (.int 13)) aJ))))) (mOp cw (mOp dA (mOp dA (ao 0) (mC (.int 4))) (mOp eX (mC (.int 1)) (mOp y2 (mC (.int 3)) (ao 1)))) (mC (.int 4))))
def pC:ag -> OS:=
    (aG (bb (az (mOp gGt (mOp cw (ao 0) (mC (.int 4))) (mC (.int 0))))
    (aZ (bT aJ))
    aO)
    (aZ (yI (mOp eX (mOp cw (mOp dA (ao 0) (mC (.int 64))) (mC (.int 3))) (mC (.int 1))) [0] jT)))
def cz:List PV->OE:=fnP 1 1 pC
def fk:ag -> OS:=
    (aZ (mOp eX (mC (.int 65536)) (mOp cw (ao 2) (mC (.int 1048576)))))
def fm:ag -> OS:=
    (aG (bb (az (mOp gEq (ao 1) (mC (.int 6))))
    (aZ (mOp eX (mC (.int 57344)) (mOp cw (ao 2) (mC (.int 8192)))))
    aO)
    fk)
def fw:ag -> OS:=
    (aG (bb (az (mOp gEq (ao 1) (mC (.int 5))))
    (aZ (mOp eX (mC (.int 2048)) (mOp cw (ao 2) (mC (.int 53248)))))
    aO)
    fm)
def fo:ag -> OS:=
    (aG (bb (az (mOp gEq (ao 1) (mC (.int 4))))
    (aZ (mOp eX (mC (.int 128)) (mOp cw (ao 2) (mC (.int 1920)))))
    aO)
    fw)
def fq:ag -> OS:=
    (aG (bb (az (mOp gLt (ao 1) (mC (.int 4))))
    (aZ (mOp nk (bT (ak (mC (.int 34)) (ak (mC (.int 92)) (ak (mC (.int 47)) (ak (mC (.int 8)) (ak (mC (.int 12)) (ak (mC (.int 10)) (ak (mC (.int 13)) (ak (mC (.int 9)) (ak (mC (.int 0)) (ak (mC (.int 31)) (ak (mC (.int 127)) aJ)))))))))))) (mOp cw (ao 2) (mC (.int 11)))))
    aO)
    fo)
def ft:ag -> OS:=
    (aG (bb (az (mOp gLt (ao 1) (mC (.int 2))))
    (aZ (mOp eX (mC (.int 32)) (mOp cw (ao 2) (mC (.int 95)))))
    aO)
    fq)
def fz:ag -> OS:=
    (aG (bf 2 (mOp dA (ao 0) (mC (.int 8))))
    ft)
def gK:ag -> OS:=
    (aG (bf 1 (mOp cw (ao 0) (mC (.int 8))))
    fz)
def dB:List PV->OE:=fnP 1 3 gK
def lz:ag -> OE:=
    (br dB (ak (br eK (ak (ao 0) (ak (mOp eX (mOp eX (ao 1) (mC (.int 1))) (ao 2)) aJ))) aJ))
def lK:ag -> OS:=
    (aZ (yI (ao 3) [0,1] lz))
def lI:ag -> OS:=
    (aG (bb (az (mOp gEq (mOp cw (mOp dA (ao 2) (mC (.int 5))) (mC (.int 8))) (mC (.int 3))))
    (bf 3 (mOp cw (mOp dA (ao 2) (mC (.int 40))) (mC (.int 14))))
    aO)
    lK)
def lJ:ag -> OS:=
    (aG (bf 3 (mOp cw (ao 2) (mC (.int 5))))
    lI)
def nv:ag -> OS:=
    (aG (bf 2 (br eK (ak (ao 0) (ak (ao 1) aJ))))
    lJ)
def eC:List PV->OE:=fnP 2 4 nv
def rF:ag -> OS:=
    (aG (bb (az (mOp gEq (mOp cw (ao 1) (mC (.int 2))) (mC (.int 0))))
    (aZ (bT (ak (mOp eX (mC (.int 97)) (mOp cw (mOp dA (ao 1) (mC (.int 2))) (mC (.int 3)))) aJ)))
    aO)
    (aZ (br eC (ak (ao 0) (ak (mOp eX (mC (.int 11)) (mOp cw (mOp dA (ao 1) (mC (.int 2))) (mC (.int 37)))) aJ)))))
def gA:List PV->OE:=fnP 2 2 rF
def iC:ag -> OS:=
    (aG (bf 2 (mOp iQ (bT (ak (mOp eX (mC (.int 128)) (mOp cw (ao 0) (mC (.int 64)))) aJ)) (ao 2)))
    (bf 0 (mOp dA (ao 0) (mC (.int 64)))))
def ir:ag -> OS:=
    (aZ (mOp iQ (bT (ak (mOp eX (mOp nk (bT (ak (mC (.int 192)) (ak (mC (.int 224)) (ak (mC (.int 240)) aJ)))) (mOp wA (ao 1) (mC (.int 1)))) (ao 0)) aJ)) (ao 2)))
def iu:ag -> OS:=
    (aG (uy 3 (ao 1)
    iC)
    ir)
def iy:ag -> OS:=
    (aG (bf 2 (bT aJ))
    iu)
def iB:ag -> OS:=
    (aG (bf 1 (mOp eX (mOp eX (mC (.int 1)) (mUn zb (mOp gGe (ao 0) (mC (.int 2048))))) (mUn zb (mOp gGe (ao 0) (mC (.int 65536))))))
    iy)
def j1:ag -> OS:=
    (aG (bb (az (mOp gLt (ao 0) (mC (.int 128))))
    (aZ (bT (ak (ao 0) aJ)))
    aO)
    iB)
def eI:List PV->OE:=fnP 1 4 j1
def lZ:ag -> OS:=
    (aG (bf 4 (mOp cw (ao 0) (mC (.int 16))))
    (aG (bb (az (mOp gLt (ao 4) (mC (.int 10))))
    (bf 2 (mOp iQ (bT (ak (mOp eX (mC (.int 48)) (ao 4)) aJ)) (ao 2)))
    (bf 2 (mOp iQ (bT (ak (mOp eX (gk (dM (ao 1)) (mC (.int 55)) (mC (.int 87))) (ao 4)) aJ)) (ao 2))))
    (bf 0 (mOp dA (ao 0) (mC (.int 16))))))
def ug:ag -> OS:=
    (aZ (mOp iQ (bT (ak (mC (.int 92)) (ak (mC (.int 117)) aJ))) (ao 2)))
def um:ag -> OS:=
    (aG (uy 3 (mC (.int 4))
    lZ)
    ug)
def wY:ag -> OS:=
    (aG (bf 2 (bT aJ))
    um)
def hJ:List PV->OE:=fnP 2 5 wY
def sO:ag -> OS:=
    (aZ (mOp iQ (br hJ (ak (mOp eX (mC (.int 55296)) (mOp dA (ao 4) (mC (.int 1024)))) (ak (mOp gEq (ao 3) (mC (.int 1))) aJ))) (br hJ (ak (mOp eX (mC (.int 56320)) (mOp cw (ao 4) (mC (.int 1024)))) (ak (mOp gEq (ao 3) (mC (.int 0))) aJ)))))
def sR:ag -> OS:=
    (aG (bf 4 (mOp wA (ao 0) (mC (.int 65536))))
    sO)
def kW:ag -> OS:=
    (aG (bb (az (mOp gLt (ao 0) (mC (.int 65536))))
    (aZ (br hJ (ak (ao 0) (ak (mOp gEq (ao 3) (mC (.int 1))) aJ))))
    aO)
    sR)
def fh:ag -> OS:=
    (aG (bb (da (az (mOp gGt (ao 3) (mC (.int 1)))) (da (az (mOp gGe (ao 0) (mC (.int 32)))) (da (az (mOp gNe (ao 0) (mC (.int 34)))) (az (mOp gNe (ao 0) (mC (.int 92)))))))
    (aZ (br eI (ak (ao 0) aJ)))
    aO)
    kW)
def nJ:ag -> OS:=
    (aG (bb (da (az (mOp gEq (ao 3) (mC (.int 0)))) (az (zV false (ao 0) 2 aI)))
    (aZ (bT (ak (mC (.int 92)) (ak (B1 2 aI (ao 0)) aJ))))
    aO)
    fh)
def i4:ag -> OS:=
    (aG (bf 3 (mOp cw (ao 1) (mC (.int 5))))
    nJ)
def vi:ag -> OS:=
    (aG (j6 2 (KS [(34,34),(92,92),(47,47),(8,98),(12,102),(10,110),(13,114),(9,116)]))
    i4)
def iL:List PV->OE:=fnP 2 5 vi
def kP:ag -> OS:=
    (aG (bf 2 (mOp iQ (ao 2) (br iL (ak (ao 4) (ak (mOp eX (mOp dA (ao 1) (mOp eX (mC (.int 1)) (mOp cw (ao 3) (mC (.int 7))))) (ao 3)) aJ)))))
    (bf 3 (mOp eX (ao 3) (mC (.int 1)))))
def sP:ag -> OS:=
    (aZ (mOp iQ (ao 2) (bT (ak (mC (.int 34)) aJ))))
def sL:ag -> OS:=
    (aG (mw 4 (ao 0)
    kP)
    sP)
def sM:ag -> OS:=
    (aG (bf 3 (mC (.int 0)))
    sL)
def wq:ag -> OS:=
    (aG (bf 2 (bT (ak (mC (.int 34)) aJ)))
    sM)
def fO:List PV->OE:=fnP 2 5 wq
def mR:ag -> OS:=
    (gY 5)
def mV:ag -> OS:=
    (aG (bb (da (du 3 aI) (az (mOp gEq (cF 3 (pIx 3 (pIx 3 aI (mUn gn (mC (.int 1)))) (mC (.int 0)))) (mC (.str "fields")))))
    (aG (bf 6 (br gA (ak (ao 0) (ak (mOp dA (ao 4) (mC (.int 13))) aJ))))
    (aG (bf 5 (mUn mG (ao 6)))
    (aG (bf 7 (gd 1 aI))
    (aG (gw 6 (dH 1 aI (br fO (ak (ao 6) (ak (mOp dA (ao 4) (mC (.int 17))) aJ)))))
    (aG (b0 2 aI (mD (bT (ak (mC (.str "name")) (ak (ao 7) (ak (gd 1 aI) (ak (mC (.int 0)) aJ)))))))
    (aG (dH 1 aI (br cz (ak (mOp dA (ao 4) (mC (.int 19))) aJ)))
    (aG (b0 1 aI (mD (mC (.int 58))))
    (dH 1 aI (br cz (ak (mOp dA (ao 4) (mC (.int 23))) aJ))))))))))
    aO)
    mR)
def qC:ag -> OS:=
    (aG (bb (da (du 3 aI) (dM (cF 3 (pIx 3 (pIx 3 aI (mUn gn (mC (.int 1)))) (mC (.int 1))))))
    (aG (b0 1 aI (mD (mC (.int 44))))
    (dH 1 aI (br cz (ak (mOp dA (ao 4) (mC (.int 11))) aJ))))
    aO)
    mV)
def qw:ag -> OS:=
    (aG (bf 5 (eU aJ))
    qC)
def lQ:ag -> OS:=
    (aG (dH 1 aI (br cz (ak (mOp dA (ao 4) (mC (.int 3))) aJ)))
    qw)
def fH:List Sl->OI:=fnI 5 8 lQ
def iz:ag -> OT:=
    (az (mOp gEq (mOp cw (ao 0) (mC (.int 10))) (mC (.int 0))))
def jU:ag -> OS:=
    (aG (bf 0 (mOp dA (ao 0) (mC (.int 10))))
    (bf 1 (mOp eX (ao 1) (mC (.int 1)))))
def qM:ag -> OS:=
    (aZ (eU (ak (ao 0) (ak (ao 1) aJ))))
def qO:ag -> OS:=
    (aG (fV iz
    jU fuel)
    qM)
def pK:ag -> OS:=
    (aG (bb (az (mOp gEq (ao 0) (mC (.int 0))))
    (aZ (eU (ak (mC (.int 0)) (ak (mC (.int 0)) aJ))))
    aO)
    qO)
def fi:List PV->OE:=fnP 2 2 pK
def gN:ag -> OE:=
    (mUn BR (ao 0))
def ju:ag -> OE:=
    (mOp eX (mC (.int 48)) (ao 0))
def fE:ag -> OS:=
    (bf 4 (mOp eX (mOp y2 (ao 4) (mC (.int 10))) (ao 5)))
def gM:ag -> OS:=
    (aG (eR 3 (mOp eX (mC (.int 48)) (ao 5)))
    (aG (bf 4 (mOp eX (mOp y2 (ao 4) (mC (.int 10))) (ao 5)))
    (bf 6 (mOp wA (ao 6) (mC (.int 1))))))
def fD:ag -> OE:=
    (mUn Ge (ao 0))
def kF:ag -> OS:=
    (gw 3 (aZ (eU (ak (ao 3) (ak (br fi (ak (ao 4) (ak (ao 6) aJ))) aJ)))))
def pU:ag -> OS:=
    (aG (bb (dM (ao 1))
    (bf 4 (mUn gn (ao 4)))
    aO)
    kF)
def oY:ag -> OS:=
    (aG (bb (az (mOp gEq (mOp cw (mOp dA (ao 0) (mC (.int 31))) (mC (.int 3))) (mC (.int 1))))
    (aG (bf 7 (mOp cw (mOp dA (ao 0) (mC (.int 37))) (mC (.int 30))))
    (aG (eR 3 (mOp nk (bT (ak (mC (.int 101)) (ak (mC (.int 69)) aJ))) (mOp cw (mOp dA (ao 0) (mC (.int 41))) (mC (.int 2)))))
    (aG (bf 8 (mOp gEq (mOp cw (mOp dA (ao 0) (mC (.int 43))) (mC (.int 3))) (mC (.int 1))))
    (aG (bb (dM (ao 8))
    (eR 3 (mC (.int 45)))
    (bb (az (mOp gEq (mOp cw (mOp dA (ao 0) (mC (.int 43))) (mC (.int 3))) (mC (.int 2))))
    (eR 3 (mC (.int 43)))
    aO))
    (aG (bb (az (mOp gEq (mOp cw (mOp dA (ao 0) (mC (.int 47))) (mC (.int 4))) (mC (.int 1))))
    (eR 3 (mC (.int 48)))
    aO)
    (aG (bf 3 (mOp iQ (ao 3) (pV (mUn pN (ao 7)) [] fD)))
    (bf 6 (mOp eX (ao 6) (gk (dM (ao 8)) (mUn gn (ao 7)) (ao 7))))))))))
    aO)
    pU)
def pE:ag -> OS:=
    (aG (bb (az (mOp gEq (mOp cw (mOp dA (ao 0) (mC (.int 17))) (mC (.int 3))) (mC (.int 1))))
    (aG (eR 3 (mC (.int 46)))
    (mw 5 (oX (bT (ak (mOp cw (mOp dA (ao 0) (mC (.int 19))) (mC (.int 10))) (ak (mOp cw (mOp dA (ao 0) (mC (.int 23))) (mC (.int 4))) (ak (mC (.int 0)) aJ)))) (mC .non) (kb (mOp eX (mC (.int 1)) (mOp cw (mOp dA (ao 0) (mC (.int 29))) (mC (.int 3))))))
    gM))
    aO)
    oY)
def pX:ag -> OS:=
    (aG (bf 6 (mC (.int 0)))
    pE)
def o8:ag -> OS:=
    (aG (gw 2 (mw 5 (ao 2)
    fE))
    pX)
def pT:ag -> OS:=
    (aG (bf 4 (mC (.int 0)))
    o8)
def oU:ag -> OS:=
    (aG (bf 3 (mOp iQ (ao 3) (rb (ao 2) [] ju)))
    pT)
def o3:ag -> OS:=
    (aG (bf 3 (gk (dM (ao 1)) (bT (ak (mC (.int 45)) aJ)) (bT aJ)))
    oU)
def pj:ag -> OS:=
    (aG (bf 2 (pV (mUn pN (mOp cw (mOp dA (ao 0) (mC (.int 3))) (mC (.int 100000)))) [] gN))
    o3)
def sm:ag -> OS:=
    (aG (bf 1 (mOp gEq (mOp cw (ao 0) (mC (.int 3))) (mC (.int 0))))
    pj)
def fW:List PV->OE:=fnP 1 9 sm
def kI:ag -> OS:=
    (aZ (eU (ak (mC (.str "number")) (ak (mOp dw (ao 4) (mC (.int 0))) (ak (eU (ak (mC (.str "number")) (ak (mOp dw (mOp dw (ao 4) (mC (.int 1))) (mC (.int 0))) (ak (mOp dw (mOp dw (ao 4) (mC (.int 1))) (mC (.int 1))) aJ)))) aJ)))))
def qh:ag -> OS:=
    (aG (bf 4 (br fW (ak (mOp dA (ao 1) (mC (.int 7))) aJ)))
    kI)
def ql:ag -> OS:=
    (aG (bb (az (mOp gEq (ao 2) (mC (.int 3))))
    (aG (bf 3 (br eC (ak (ao 0) (ak (mOp eX (mC (.int 7)) (mOp cw (ao 1) (mC (.int 41)))) aJ))))
    (gw 3 (aZ (eU (ak (mC (.str "text")) (ak (br fO (ak (ao 3) (ak (mOp dA (ao 1) (mC (.int 30))) aJ))) (ak (eU (ak (mC (.str "text")) (ak (mUn mG (ao 3)) aJ))) aJ)))))))
    aO)
    qh)
def qp:ag -> OS:=
    (aG (bb (az (mOp gEq (ao 2) (mC (.int 2))))
    (aZ (eU (ak (mC (.str "false")) (ak (bT (ak (mC (.int 102)) (ak (mC (.int 97)) (ak (mC (.int 108)) (ak (mC (.int 115)) (ak (mC (.int 101)) aJ)))))) (ak (mC (.bl false)) aJ)))))
    aO)
    ql)
def qm:ag -> OS:=
    (aG (bb (az (mOp gEq (ao 2) (mC (.int 1))))
    (aZ (eU (ak (mC (.str "true")) (ak (bT (ak (mC (.int 116)) (ak (mC (.int 114)) (ak (mC (.int 117)) (ak (mC (.int 101)) aJ))))) (ak (mC (.bl true)) aJ)))))
    aO)
    qp)
def kH:ag -> OS:=
    (aG (bb (az (mOp gEq (ao 2) (mC (.int 0))))
    (aZ (eU (ak (mC (.str "null")) (ak (bT (ak (mC (.int 110)) (ak (mC (.int 117)) (ak (mC (.int 108)) (ak (mC (.int 108)) aJ))))) (ak (mC .non) aJ)))))
    aO)
    qm)
def mx:ag -> OS:=
    (aG (bf 2 (mOp cw (mOp dA (ao 1) (mC (.int 5))) (mC (.int 6))))
    kH)
def cu:List PV->OE:=fnP 2 5 mx
def iq:ag -> OS:=
    (aG (bf 7 (br eK (ak (ao 0) (ak (ao 6) aJ))))
    (bb (da (du 4 aI) (az (mOp gEq (mOp cw (ao 7) (mC (.int 5))) (mC (.int 1)))))
    (aG (dH 2 aI (br cz (ak (mOp dA (ao 7) (mC (.int 3))) aJ)))
    (hX 5 (iS cS [.t 2 aI,.t 3 aI,.t 4 aI])))
    (bb (kX (du 4 aI) (az (mOp gEq (ao 6) (mC (.int 0)))))
    (aG (hX 8 (iS fH [.e (ao 0),.t 2 aI,.t 3 aI,.t 4 aI,.e (ao 7)]))
    (aG (bf 9 (gd 2 aI))
    (bb (kX (az (mOp gGt (mOp cw (ao 7) (mC (.int 5))) (mC (.int 2)))) (da (az (mOp gEq (ao 6) (mC (.int 0)))) (az (mOp gGt (mOp cw (ao 7) (mC (.int 9))) (mC (.int 0))))))
    (aG (bf 10 (mOp nk (bT (ak (mC (.str "row")) (ak (mC (.str "fields")) aJ))) (mOp cw (mOp dA (ao 7) (mC (.int 5))) (mC (.int 2)))))
    (aG (b0 2 aI (mD (gk (az (mOp gEq (ao 10) (mC (.str "row")))) (mC (.int 91)) (mC (.int 123)))))
    (aG (b0 4 aI (mDl (mDc (mD (ao 10)) (mDc (mD (bT aJ)) (mDc (mD (gd 3 aI)) (mDc (mD (ao 8)) mDn))))))
    (b0 3 aI (mD (bT (ak (ao 10) (ak (ao 9) (ak (mC (.int 0)) (ak (mC (.int 0)) aJ))))))))))
    (aG (bf 11 (br cu (ak (ao 0) (ak (ao 7) aJ))))
    (aG (dH 2 aI (mOp dw (ao 11) (mC (.int 1))))
    (aG (b0 3 aI (mD (bT (ak (mOp dw (ao 11) (mC (.int 0))) (ak (ao 9) (ak (gd 2 aI) (ak (mOp eX (gd 3 aI) (mC (.int 1))) aJ)))))))
    (aG (bf 5 (mOp dw (ao 11) (mC (.int 2))))
    (bb (da (du 4 aI) (az (mOp gEq (cF 4 (pIx 4 (pIx 4 aI (mUn gn (mC (.int 1)))) (mC (.int 0)))) (mC (.str "fields")))))
    (aG (pB 3 (pIx 3 aI (mUn gn (mC (.int 2)))) (mC (.int 3)) (mD (gd 3 aI)))
    (b0 4 (pIx 4 (pIx 4 aI (mUn gn (mC (.int 1)))) (mC (.int 1))) (mD (eU (ak (ao 8) (ak (ao 5) aJ))))))
    (bb (du 4 aI)
    (b0 4 (pIx 4 (pIx 4 aI (mUn gn (mC (.int 1)))) (mC (.int 1))) (mD (ao 5)))
    aO)))))))))
    aO)))
def iw:ag -> OT:=
    (du 4 aI)
def jV:ag -> OS:=
    (hX 5 (iS cS [.t 2 aI,.t 3 aI,.t 4 aI]))
def mO:ag -> OE:=
    (mUn mG (ao 0))
def qJ:ag -> OS:=
    (lB 3 (lB 2 (aZ (eU (ak (ao 2) (ak (rb (ao 3) [] mO) (ak (ao 5) aJ)))))))
def mU:ag -> OS:=
    (aG (dH 2 aI (br cz (ak (br eK (ak (ao 0) (ak (mC (.int 61)) aJ))) aJ)))
    qJ)
def qR:ag -> OS:=
    (aG (fV iw
    jV fuel)
    mU)
def mP:ag -> OS:=
    (aG (uy 6 (ao 1)
    iq)
    qR)
def qL:ag -> OS:=
    (aG (bf 5 (mC .non))
    mP)
def qK:ag -> OS:=
    (aG (j6 4 (mD (bT aJ)))
    qL)
def qN:ag -> OS:=
    (aG (j6 3 (mD (bT aJ)))
    qK)
def oP:ag -> OS:=
    (aG (j6 2 (mD (bT aJ)))
    qN)
def gC:List PV->OE:=fnP 2 12 oP
def uL:ag -> OS:=
    (FU 0 aI "coming" m8 (mD (bT (ak (mC (.str "white")) (ak (mC (.str "value")) (ak (mC (.str "white")) aJ))))))
def cg:List Sl->OI:=fnI 1 1 uL
def j8:ag -> OS:=
    (aZ (mUn (gz [(110,.tup ([117,108,108].map .int)),(116,.tup ([114,117,101].map .int)),(102,.tup ([97,108,115,101].map .int))]) (ao 0)))
def eY:List PV->OE:=fnP 1 1 j8
def uw:ag -> OS:=
    (aZ (iJ gLe gLe (mC (.int 48)) (ao 0) (mC (.int 57))))
def eW:List PV->OE:=fnP 1 1 uw
def ko:ag -> OS:=
    (aZ (mC .non))
def kr:ag -> OS:=
    (aG (bb (dM (br eW (ak (ao 0) aJ)))
    (aZ (bT (ak (mC (.str "figures")) (ak (mC (.str "fraction")) (ak (mC (.str "exponent")) aJ)))))
    aO)
    ko)
def mW:ag -> OS:=
    (aG (bb (az (mOp gEq (ao 0) (mC (.int 48))))
    (aZ (bT (ak (mC (.str "fraction")) (ak (mC (.str "exponent")) aJ))))
    aO)
    kr)
def dP:List PV->OE:=fnP 1 1 mW
def cO:ag -> OE:=
    (eU (ak (ao 0) (ak (ao 0) aJ)))
def cL:ag -> OS:=
    (aZ (br dP (ak (ao 0) aJ)))
def cN:ag -> OS:=
    (aG (bb (az (mOp u6 (ao 1) (mC .non)))
    (aZ (wj (ao 1) [] cO))
    aO)
    cL)
def cH:ag -> OS:=
    (aG (bf 1 (br eY (ak (ao 0) aJ)))
    cN)
def cJ:ag -> OS:=
    (aG (bb (az (mOp gEq (ao 0) (mC (.int 45))))
    (aZ (bT (ak (mC (.str "lead")) aJ)))
    aO)
    cH)
def cM:ag -> OS:=
    (aG (bb (az (mOp gEq (ao 0) (mC (.int 34))))
    (aZ (bT (ak (mC (.str "text")) aJ)))
    aO)
    cJ)
def cK:ag -> OS:=
    (aG (bb (az (mOp gEq (ao 0) (mC (.int 123))))
    (aZ (bT (ak (mC (.str "white")) (ak (mC (.str "fields")) aJ))))
    aO)
    cM)
def dr:ag -> OS:=
    (aG (bb (az (mOp gEq (ao 0) (mC (.int 91))))
    (aZ (bT (ak (mC (.str "white")) (ak (mC (.str "row")) aJ))))
    aO)
    cK)
def bM:List PV->OE:=fnP 1 2 dr
def bC:ag -> OS:=
    (aZ (gk (az (mOp gIn (ao 1) (eU (ak (mC (.int 43)) (ak (mC (.int 45)) aJ))))) (bT aJ) (mC .non)))
def bA:ag -> OS:=
    (aG (bb (az (mOp gEq (ao 0) (mC (.str "exponent"))))
    (aZ (gk (az (mOp gIn (ao 1) (eU (ak (mC (.int 101)) (ak (mC (.int 69)) aJ))))) (bT (ak (mC (.str "sign")) (ak (eU (ak (mC (.int 48)) (ak (mC (.int 57)) aJ))) (ak (mC (.str "figures")) aJ)))) (mC .non)))
    aO)
    bC)
def bz:ag -> OS:=
    (aG (bb (az (mOp gEq (ao 0) (mC (.str "fraction"))))
    (aZ (gk (az (mOp gEq (ao 1) (mC (.int 46)))) (bT (ak (eU (ak (mC (.int 48)) (ak (mC (.int 57)) aJ))) (ak (mC (.str "figures")) aJ))) (mC .non)))
    aO)
    bA)
def bI:ag -> OS:=
    (aG (bb (az (mOp gEq (ao 0) (mC (.str "figures"))))
    (aZ (gk (dM (br eW (ak (ao 1) aJ))) (bT (ak (mC (.str "figures")) aJ)) (mC .non)))
    aO)
    bz)
def bX:ag -> OS:=
    (aG (bb (az (mOp gEq (ao 0) (mC (.str "lead"))))
    (aZ (br dP (ak (ao 1) aJ)))
    aO)
    bI)
def aX:List PV->OE:=fnP 2 2 bX
def qP:ag -> OS:=
    (aZ (mC .non))
def qy:ag -> OS:=
    (aG (bb (az (iJ gLe gLe (mC (.int 97)) (ao 0) (mC (.int 102))))
    (aZ (mOp wA (ao 0) (mC (.int 87))))
    aO)
    qP)
def qA:ag -> OS:=
    (aG (bb (az (iJ gLe gLe (mC (.int 65)) (ao 0) (mC (.int 70))))
    (aZ (mOp wA (ao 0) (mC (.int 55))))
    aO)
    qy)
def ux:ag -> OS:=
    (aG (bb (dM (br eW (ak (ao 0) aJ)))
    (aZ (mOp wA (ao 0) (mC (.int 48))))
    aO)
    qA)
def fK:List PV->OE:=fnP 1 1 ux
def jn:ag -> OS:=
    (aZ (mC .non))
def jl:ag -> OS:=
    (aG (bb (az (mOp gLt (ao 0) (mC (.int 12))))
    (aG (bf 1 (bT (ak (eU (ak (mC (.int 92)) (ak (mC (.int 92)) aJ))) (ak (eU (ak (mC (.int 117)) (ak (mC (.int 117)) aJ))) (ak (mC (.str "hex d")) (ak (mC (.str "hex c to f")) (ak (mC (.str "hex")) (ak (mC (.str "hex")) aJ))))))))
    (aZ (mOp iQ (bT (ak (mC (.str "hex")) (ak (mC (.str "hex")) aJ))) (ao 1))))
    aO)
    jn)
def kl:ag -> OS:=
    (aG (bb (az (mOp gLt (ao 0) (mC (.int 8))))
    (aZ (bT (ak (mC (.str "hex")) (ak (mC (.str "hex")) aJ))))
    aO)
    jl)
def dC:List PV->OE:=fnP 1 2 kl
def il:ag -> OS:=
    (aZ (mC (.tup ([128,191].map .int))))
def ic:ag -> OS:=
    (aG (bb (az (mOp gEq (ao 0) (mC (.int 237))))
    (aZ (eU (ak (mC (.int 128)) (ak (mC (.int 159)) aJ))))
    aO)
    il)
def i3:ag -> OS:=
    (aG (bb (az (mOp gEq (ao 0) (mC (.int 224))))
    (aZ (eU (ak (mC (.int 160)) (ak (mC (.int 191)) aJ))))
    aO)
    ic)
def cR:List PV->OE:=fnP 1 1 i3
def iR:ag -> OS:=
    (aZ (mC (.tup ([128,191].map .int))))
def iN:ag -> OS:=
    (aG (bb (az (mOp gEq (ao 0) (mC (.int 244))))
    (aZ (eU (ak (mC (.int 128)) (ak (mC (.int 143)) aJ))))
    aO)
    iR)
def jC:ag -> OS:=
    (aG (bb (az (mOp gEq (ao 0) (mC (.int 240))))
    (aZ (eU (ak (mC (.int 144)) (ak (mC (.int 191)) aJ))))
    aO)
    iN)
def dm:List PV->OE:=fnP 1 1 jC
def lg:ag -> OS:=
    (aZ (mC .non))
def lh:ag -> OS:=
    (aG (bb (az (iJ gLe gLt (mC (.int 240)) (ao 0) (mC (.int 245))))
    (aZ (bT (ak (br dm (ak (ao 0) aJ)) (ak (mC (.tup ([128,191].map .int))) (ak (mC (.tup ([128,191].map .int))) aJ)))))
    aO)
    lg)
def la:ag -> OS:=
    (aG (bb (az (iJ gLe gLt (mC (.int 224)) (ao 0) (mC (.int 240))))
    (aZ (bT (ak (br cR (ak (ao 0) aJ)) (ak (mC (.tup ([128,191].map .int))) aJ))))
    aO)
    lh)
def ll:ag -> OS:=
    (aG (bb (az (iJ gLe gLt (mC (.int 194)) (ao 0) (mC (.int 224))))
    (aZ (bT (ak (mC (.tup ([128,191].map .int))) aJ)))
    aO)
    la)
def pZ:ag -> OS:=
    (aG (bb (az (iJ gLe gLt (mC (.int 0)) (ao 0) (mC (.int 128))))
    (aZ (bT aJ))
    aO)
    ll)
def jr:List PV->OE:=fnP 1 1 pZ
def dQ:ag -> OS:=
    (aZ (mOp iQ (ao 1) (bT (ak (mC (.str "text")) aJ))))
def dX:ag -> OS:=
    (aG (bb (kX (az (mOp gLt (ao 0) (mC (.int 32)))) (az (mOp se (ao 1) (mC .non))))
    (aZ (mC .non))
    aO)
    dQ)
def dW:ag -> OS:=
    (aG (bf 1 (br jr (ak (ao 0) aJ)))
    dX)
def dZ:ag -> OS:=
    (aG (bb (az (mOp gEq (ao 0) (mC (.int 92))))
    (aZ (bT (ak (mC (.str "escape")) (ak (mC (.str "text")) aJ))))
    aO)
    dW)
def eM:ag -> OS:=
    (aG (bb (az (mOp gEq (ao 0) (mC (.int 34))))
    (aZ (bT aJ))
    aO)
    dZ)
def bW:List PV->OE:=fnP 1 2 eM
def cV:ag -> OS:=
    (aZ (mUn (gz [(34,.int 34),(92,.int 92),(47,.int 47),(98,.int 8),(102,.int 12),(110,.int 10),(114,.int 13),(116,.int 9)]) (ao 0)))
def bN:List PV->OE:=fnP 1 1 cV
def iF:ag -> OS:=
    (aG (bb (az (mOp gEq (ao 0) (mC (.int 117))))
    (aZ (bT (ak (mC (.str "code")) aJ)))
    aO)
    (aZ (gk (az (mOp se (br bN (ak (ao 0) aJ)) (mC .non))) (mC .non) (bT aJ))))
def cy:List PV->OE:=fnP 1 1 iF
def dk:ag -> OS:=
    (aZ (br dC (ak (ao 2) aJ)))
def dj:ag -> OS:=
    (aG (bb (az (mOp gEq (ao 0) (mC (.str "code"))))
    (aZ (gk (az (mOp gEq (ao 2) (mC (.int 13)))) (bT (ak (mC (.str "code d")) aJ)) (bT (ak (mC (.str "hex")) (ak (mC (.str "hex")) (ak (mC (.str "hex")) aJ))))))
    aO)
    dk)
def de:ag -> OS:=
    (aG (bb (az (mOp se (ao 2) (mC .non)))
    (aZ (mC .non))
    aO)
    dj)
def dc:ag -> OS:=
    (aG (bf 2 (br fK (ak (ao 1) aJ)))
    de)
def dh:ag -> OS:=
    (aG (bb (az (mOp gEq (ao 0) (mC (.str "escape"))))
    (aZ (br cy (ak (ao 1) aJ)))
    aO)
    dc)
def dI:ag -> OS:=
    (aG (bb (az (mOp gEq (ao 0) (mC (.str "text"))))
    (aZ (br bW (ak (ao 1) aJ)))
    aO)
    dh)
def bJ:List PV->OE:=fnP 2 3 dI
def gQ:ag -> OS:=
    (aZ (bT aJ))
def gL:ag -> OS:=
    (aG (bb (az (mOp gEq (ao 0) (mC (.str "hex c to f"))))
    (aZ (gk (az (mOp gGe (ao 2) (mC (.int 12)))) (bT aJ) (mC .non)))
    aO)
    gQ)
def gG:ag -> OS:=
    (aG (bb (az (mOp gEq (ao 0) (mC (.str "hex d"))))
    (aZ (gk (az (mOp gEq (ao 2) (mC (.int 13)))) (bT aJ) (mC .non)))
    aO)
    gL)
def gB:ag -> OS:=
    (aG (bb (az (mOp se (ao 2) (mC .non)))
    (aZ (mC .non))
    aO)
    gG)
def jy:ag -> OS:=
    (aG (bf 2 (br fK (ak (ao 1) aJ)))
    gB)
def dy:List PV->OE:=fnP 2 3 jy
def fb:ag -> OS:=
    (aZ (gk (az (mOp se (ao 1) (mC .non))) (mC .non) (mOp iQ (ao 1) (bT (ak (mC (.str "white")) (ak (mC (.str "more row")) aJ))))))
def eZ:ag -> OS:=
    (aG (bf 1 (br bM (ak (ao 0) aJ)))
    fb)
def fT:ag -> OS:=
    (aG (bb (az (mOp gEq (ao 0) (mC (.int 93))))
    (aZ (bT aJ))
    aO)
    eZ)
def b7:List PV->OE:=fnP 1 2 fT
def qH:ag -> OS:=
    (aZ (bT (ak (mC (.str "white")) (ak (eU (ak (mC (.int 58)) (ak (mC (.int 58)) aJ))) (ak (mC (.str "white")) (ak (mC (.str "value")) (ak (mC (.str "white")) (ak (mC (.str "more fields")) aJ))))))))
def eE:List PV->OE:=fnP 0 0 qH
def gi:ag -> OS:=
    (aG (bb (az (mOp gEq (ao 0) (mC (.int 125))))
    (aZ (bT aJ))
    aO)
    (aZ (gk (az (mOp gEq (ao 0) (mC (.int 34)))) (mOp iQ (bT (ak (mC (.str "text")) aJ)) (br eE aJ)) (mC .non))))
def bY:List PV->OE:=fnP 1 1 gi
def b5:ag -> OS:=
    (aZ (gk (az (mOp gEq (ao 1) (mC (.int 125)))) (bT aJ) (mC .non)))
def b6:ag -> OS:=
    (aG (bb (az (mOp gEq (ao 1) (mC (.int 44))))
    (aZ (mOp iQ (bT (ak (mC (.str "white")) (ak (mC (.str "name")) aJ))) (br eE aJ)))
    aO)
    b5)
def b8:ag -> OS:=
    (aG (bb (az (mOp gEq (ao 0) (mC (.str "more row"))))
    (aG (bb (az (mOp gEq (ao 1) (mC (.int 44))))
    (aZ (bT (ak (mC (.str "white")) (ak (mC (.str "value")) (ak (mC (.str "white")) (ak (mC (.str "more row")) aJ))))))
    aO)
    (aZ (gk (az (mOp gEq (ao 1) (mC (.int 93)))) (bT aJ) (mC .non))))
    aO)
    b6)
def b4:ag -> OS:=
    (aG (bb (az (mOp gEq (ao 0) (mC (.str "fields"))))
    (aZ (br bY (ak (ao 1) aJ)))
    aO)
    b8)
def cB:ag -> OS:=
    (aG (bb (az (mOp gEq (ao 0) (mC (.str "row"))))
    (aZ (br b7 (ak (ao 1) aJ)))
    aO)
    b4)
def bc:List PV->OE:=fnP 2 2 cB
def wu:ag -> OS:=
    (aZ (mOp gIn (ao 0) (mC (.tup ([9,10,13,32].map .int)))))
def iO:List PV->OE:=fnP 1 1 wu
def vP:ag -> OS:=
    (aZ (br bM (ak (ao 1) aJ)))
def wo:ag -> OS:=
    (aG (bb (az (mOp gEq (ao 0) (mC (.str "name"))))
    (aZ (gk (az (mOp gEq (ao 1) (mC (.int 34)))) (bT (ak (mC (.str "text")) aJ)) (mC .non)))
    aO)
    vP)
def vB:ag -> OS:=
    (aG (bb (az (mOp gEq (ao 0) (mC (.str "white"))))
    (aZ (gk (dM (br iO (ak (ao 1) aJ))) (bT (ak (mC (.str "white")) aJ)) (mC .non)))
    aO)
    wo)
def vc:ag -> OS:=
    (aG (bb (az (mOp gIn (ao 0) (mC (.tup [.str "row",.str "more row",.str "fields",.str "more fields"]))))
    (aZ (br bc (ak (ao 0) (ak (ao 1) aJ))))
    aO)
    vB)
def vM:ag -> OS:=
    (aG (bb (az (mOp gIn (ao 0) (eU (ak (mC (.str "hex")) (ak (mC (.str "hex d")) (ak (mC (.str "hex c to f")) aJ))))))
    (aZ (br dy (ak (ao 0) (ak (ao 1) aJ))))
    aO)
    vc)
def u9:ag -> OS:=
    (aG (bb (az (mOp gIn (ao 0) (eU (ak (mC (.str "text")) (ak (mC (.str "escape")) (ak (mC (.str "code")) (ak (mC (.str "code d")) aJ)))))))
    (aZ (br bJ (ak (ao 0) (ak (ao 1) aJ))))
    aO)
    vM)
def vy:ag -> OS:=
    (aG (bb (az (mOp gIn (ao 0) (eU (ak (mC (.str "lead")) (ak (mC (.str "figures")) (ak (mC (.str "fraction")) (ak (mC (.str "exponent")) (ak (mC (.str "sign")) aJ))))))))
    (aZ (br aX (ak (ao 0) (ak (ao 1) aJ))))
    aO)
    u9)
def vq:ag -> OS:=
    (aG (bb (dM (mIs "tuple" (ao 0)))
    (aZ (gk (az (iJ gLe gLe (mOp dw (ao 0) (mC (.int 0))) (ao 1) (mOp dw (ao 0) (mC (.int 1))))) (bT aJ) (mC .non)))
    aO)
    vy)
def ke:List PV->OE:=fnP 2 2 vq
def jt:ag -> OE:=
    (ao 0)
def gu:ag -> OT:=
    (az (mOp gIn (ao 0) (mC (.tup [.str "row",.str "more row",.str "fields",.str "more fields"]))))
def oJ:ag -> OS:=
    (aZ (mUn xO (j9 (cF 0 (pFd 0 aI "coming" m8)) [] gu jt)))
def cD:List Sl->OI:=fnI 1 1 oJ
def gZ:ag -> OT:=
    (du 0 (pFd 0 aI "coming" m8))
def gW:ag -> OS:=
    (aG (hX 2 (qr 0 (pFd 0 aI "coming" m8)))
    (aG (bf 3 (br ke (ak (ao 2) (ak (ao 1) aJ))))
    (aG (bb (az (mOp u6 (ao 3) (mC .non)))
    (aG (dH 0 (pFd 0 aI "coming" m8) (DI (ao 3) (mUn gn (mC (.int 1)))))
    (aZ (mOp gLe (nZ "Walk" "brackets" cD [.b 0 aI]) (mC (.int 64)))))
    aO)
    (bb (az (mOp tY (ao 2) (mC (.tup [.str "white",.str "figures",.str "fraction",.str "exponent",.str "sign"]))))
    (aZ (mC (.bl false)))
    aO))))
noncomputable def i7:ag -> OS:=
    (aG (fV gZ
    gW fuel)
    (aZ (mC (.bl false))))
noncomputable def dY:List Sl->OI:=fnI 2 4 i7
noncomputable def j0:ag -> OS:=
    (He true (lp "Walk" "goes_on" dY [.t 0 aI,.e (ao 3)])
    (gY 2)
    aO)
noncomputable def mv:ag -> OS:=
    (aG (BJ 2 3 (ao 1)
    j0)
    (aZ (mUn xO (ao 1))))
noncomputable def eG:List Sl->OI:=fnI 2 4 mv
noncomputable def AI:ag -> OS:=
    (aG (bb (dM (mIs "tuple" (ao 0)))
    (aZ (eU (ak (mOp dw (ao 0) (mC (.int 0))) aJ)))
    aO)
    (aZ (BA [("value",.tup ([48].map .int)),("lead",.tup ([48].map .int)),("text",.tup ([34].map .int)),("name",.tup ([34,34].map .int)),("escape",.tup ([34].map .int)),("code",.tup ([48,48,48,48].map .int)),("code d",.tup ([48,48,48].map .int)),("hex",.tup ([48].map .int)),("hex d",.tup ([68].map .int)),("hex c to f",.tup ([67].map .int)),("row",.tup ([93].map .int)),("more row",.tup ([93].map .int)),("fields",.tup ([125].map .int)),("more fields",.tup ([125].map .int))] (ao 0) (eU aJ))))
noncomputable def iT:List PV->OE:=fnP 1 1 AI
noncomputable def vH:ag -> OS:=
    (oQ 3 aI (br iT (ak (ao 4) aJ)))
noncomputable def vX:ag -> OS:=
    (lB 3 (gY 3))
noncomputable def vt:ag -> OS:=
    (aG (mw 4 (DI (cF 1 (pFd 1 aI "coming" m8)) (mUn gn (mC (.int 1))))
    vH)
    vX)
noncomputable def vZ:ag -> OS:=
    (aG (j6 3 (mD (bT aJ)))
    vt)
noncomputable def vn:ag -> OS:=
    (aG (bb (az (mOp gLt (ao 2) (mUn xO (ao 0))))
    EX
    aO)
    vZ)
noncomputable def ve:ag -> OS:=
    (aG (hX 2 (lp "Walk" "take" eG [.t 1 aI,.e (ao 0)]))
    vn)
noncomputable def zj:ag -> OS:=
    (aG (j6 1 (sA "Walk" cg))
    ve)
noncomputable def j5:List PV->OE:=fnP 1 5 zj
noncomputable def ur:ag -> OS:=
    (aZ (BP (mIs "int" (ao 0)) (Ey (mIs "bool" (ao 0)))))
noncomputable def gO:List PV->OE:=fnP 1 1 ur
noncomputable def lx:ag -> OE:=
    (br gO (ak (ao 0) aJ))
noncomputable def rX:ag -> OS:=
    (aZ (BP (mIs "list" (ao 0)) (mUn Dx (rb (ao 0) [] lx))))
noncomputable def eV:List PV->OE:=fnP 1 1 rX
noncomputable def jc:ag -> OE:=
    (mOp gIn (ao 0) (mC (.tup [.str "white",.str "figures",.str "fraction",.str "exponent",.str "sign"])))
noncomputable def oF:ag -> OS:=
    (aZ (mUn Dx (rb (cF 0 (pFd 0 aI "coming" m8)) [] jc)))
noncomputable def cZ:List Sl->OI:=fnI 1 1 oF
noncomputable def sY:ag -> OS:=
    (gY 2)
noncomputable def xc:ag -> OS:=
    (aG (bb (da (az (mOp gEq (ao 2) (mUn xO (ao 0)))) (dM (nZ "Walk" "is_whole" cZ [.b 1 aI])))
    (aZ (mC .non))
    aO)
    sY)
noncomputable def xA:ag -> OS:=
    (aG (hX 2 (lp "Walk" "take" eG [.t 1 aI,.e (ao 0)]))
    xc)
noncomputable def CA:ag -> OS:=
    (aG (j6 1 (sA "Walk" cg))
    xA)
noncomputable def kM:List PV->OE:=fnP 1 3 CA
noncomputable def uQ:ag -> OS:=
    (bb (az (iJ gLt gLt (mOp dw (ao 8) (mC (.int 1))) (ao 3) (mOp dw (ao 8) (mC (.int 2)))))
    (bb (az (mOp gIn (mOp dw (ao 8) (mC (.int 0))) (eU (ak (mC (.str "row")) (ak (mC (.str "fields")) aJ)))))
    (bf 6 (mOp eX (ao 6) (mC (.int 1))))
    (bf 7 (mOp eX (ao 7) (mC (.int 1)))))
    aO)
noncomputable def uP:ag -> OE:=
    (ao 0)
noncomputable def u5:ag -> OT:=
    (az (mOp tY (ao 0) (eU (ak (mC (.int 32)) (ak (mC (.int 9)) (ak (mC (.int 10)) (ak (mC (.int 13)) aJ)))))))
noncomputable def u2:ag -> OE:=
    (gk (az (mOp gEq (mOp dw (ao 1) (mC (.int 0))) (mC (.str "fields")))) (mC (.int 125)) (mC (.int 93)))
noncomputable def Cw:ag -> OT:=
    (az (iJ gLt gLt (mOp dw (ao 1) (mC (.int 1))) (ao 0) (mOp dw (ao 1) (mC (.int 2)))))
noncomputable def u0:ag -> OS:=
    (bb (da (az (mOp gIn (mOp dw (ao 8) (mC (.int 0))) (eU (ak (mC (.str "name")) (ak (mC (.str "text")) aJ))))) (da (az (mOp gLe (mOp dw (ao 8) (mC (.int 2))) (ao 3))) (kX (az (mOp se (ao 11) (mC .non))) (az (mOp gGt (mOp dw (ao 8) (mC (.int 2))) (mOp dw (ao 11) (mC (.int 2))))))))
    (bf 11 (ao 8))
    aO)
noncomputable def Em:ag -> OS:=
    (aZ (mOp yK (ao 5) (ao 10)))
noncomputable def sW:ag -> OS:=
    (aG (bb (kX (az (mOp gEq (ao 9) (mC (.int 44)))) (az (mOp gEq (ao 9) (mC (.int 58)))))
    (aZ (mOp yK (ao 5) (mOp iQ (bT (ak (mC (.int 48)) aJ)) (ao 10))))
    aO)
    Em)
noncomputable def vC:ag -> OS:=
    (aG (bb (da (az (mOp gEq (ao 9) (mC (.int 44)))) (az (mOp gEq (mOp nk (ao 10) (mC (.int 0))) (mC (.int 125)))))
    (aZ (mOp yK (ao 5) (mOp iQ (bT (ak (mC (.int 34)) (ak (mC (.int 34)) (ak (mC (.int 58)) (ak (mC (.int 48)) aJ))))) (ao 10))))
    aO)
    sW)
noncomputable def vx:ag -> OS:=
    (aG (bb (da (az (mOp gEq (ao 9) (mC (.int 34)))) (az (mOp gEq (mOp dw (ao 11) (mC (.int 0))) (mC (.str "name")))))
    (aZ (mOp yK (ao 5) (mOp iQ (bT (ak (mC (.int 58)) (ak (mC (.int 48)) aJ))) (ao 10))))
    aO)
    vC)
noncomputable def Ap:ag -> OS:=
    (aG (mw 8 (mOp dw (ao 1) (mC (.int 1)))
    u0)
    vx)
noncomputable def zZ:ag -> OS:=
    (aG (bf 11 (mC .non))
    Ap)
noncomputable def y4:ag -> OS:=
    (aG (sF 10)
    zZ)
noncomputable def zI:ag -> OS:=
    (aG (bf 10 (j9 (mOp dw (ao 1) (mC (.int 1))) [3] Cw u2))
    y4)
noncomputable def zv:ag -> OS:=
    (aG (bf 9 (mOp nk (j9 (oX (ao 2) (mC .non) (kb (ao 3))) [] u5 uP) (mUn gn (mC (.int 1)))))
    zI)
noncomputable def zA:ag -> OS:=
    (aG (bb (kX (az (mOp gGt (ao 7) (mC (.int 0)))) (az (mOp gEq (ao 6) (mC (.int 0)))))
    (aZ (mC (.bl true)))
    aO)
    zv)
noncomputable def B0:ag -> OS:=
    (aG (mw 8 (mOp dw (ao 1) (mC (.int 1)))
    uQ)
    zA)
noncomputable def BD:ag -> OS:=
    (aG (bf 7 (mC (.int 0)))
    B0)
noncomputable def xZ:ag -> OS:=
    (aG (bf 6 (mC (.int 0)))
    BD)
noncomputable def B6:ag -> OS:=
    (aG (bb (az (mOp Dk (br j5 (ak (ao 2) aJ)) (bT aJ)))
    (aZ (mC (.bl false)))
    aO)
    xZ)
noncomputable def Ci:ag -> OS:=
    (aG (gw 5 (bb (kX (BK (dM (br eV (ak (ao 5) aJ)))) (kX (az (mOp Dk (ao 4) (oX (ao 2) (mC .non) (kb (ao 3))))) (az (mOp u6 (br kM (ak (mOp iQ (oX (ao 2) (mC .non) (kb (ao 3))) (ao 5)) aJ)) (mC .non)))))
    (aZ (mC (.bl false)))
    aO))
    B6)
noncomputable def BE:ag -> OS:=
    (aG (gw 4 (bf 5 (br j5 (ak (ao 4) aJ))))
    Ci)
noncomputable def Ck:ag -> OS:=
    (aG (bf 4 (oX (ao 2) (mC .non) (kb (ao 3))))
    BE)
noncomputable def BX:ag -> OS:=
    (aG (bf 3 (mOp cw (br eK (ak (ao 0) (ak (mC (.int 60)) aJ))) (mOp eX (mUn xO (ao 2)) (mC (.int 1)))))
    Ck)
noncomputable def BO:ag -> OS:=
    (aG (bf 2 (mOp dw (ao 1) (mC (.int 0))))
    BX)
noncomputable def Jc:ag -> OS:=
    (aG (bf 1 (br gC (ak (ao 0) (ak (mOp eX (mC (.int 1)) (mOp cw (br eK (ak (ao 0) (ak (mC (.int 62)) aJ))) (mC (.int 9)))) aJ))))
    BO)
noncomputable def xu:List PV->OE:=fnP 1 12 Jc
theorem nB(ns:List Int)(k:Int):iK [.lst (ns.map .int),.int k]=.ok (.sh (.int (PG.cell ns k))):=by
 unfold iK vg PG.cell
 cases ns with
 |nil=>simp
 | cons n r=>
   have hp:(0:Int)<(r.length:Int)+1:=by omega
   have hm:0<=k%((r.length:Int)+1):=Int.emod_nonneg _ (by omega)
   have hm2:k%((r.length:Int)+1)<(r.length:Int)+1:=Int.emod_lt_of_pos _ hp
   have hi:(k%((r.length:Int)+1)).toNat<(n ::r).length:=by rw[List.length_cons];omega
   have ha:atP (PV.int n ::r.map .int) (k%((r.length:Int)+1))=some (.int ((n ::r).getD (k%((r.length:Int)+1)).toNat 0)):=by
    rw[E3 _ _ hm]
    have:(PV.int n ::r.map .int)=(n ::r).map .int:=rfl
    rw[this,List.getElem?_map,List.getElem?_eq_getElem hi,List.getD_eq_getElem?_getD,List.getElem?_eq_getElem hi];rfl
   simp[hp,ha]
theorem dJ(ns:List Int)(k:Int):eK [.lst (ns.map .int),.int k]=.ok (.sh (.int (PG.mix ns k))):=by
 unfold PG.mix;simp[uz,uo,xt,eK,nB]
theorem lW(n:Int):gO [.int n]=.ok (.sh (.bl true)):=by
 unfold gO ur;simp
theorem yc(ns:List Int):dg lx [] (ns.map .int)=.ok (ns.map fun _=>.bl true):=
 jN _ fun n _=>by simp[lx,lW]
theorem kO(ns:List Int)(h:ns.length<=1000000):eV [.lst (ns.map .int)]=.ok (.sh (.bl true)):=by
 unfold eV rX
 have e:qb (ns.map fun _=>PV.bl true)=some (ns.map fun _=>true):=by
  have:=uk (ns.map fun _=>true)
  rwa [List.map_map]at this
 simp[yc,cX,df h,Dx,e]
theorem lY(n:Int):dB [.int n]=.ok (.sh (.int (PG.point n))):=by
 unfold PG.point
 have ha:atP [PV.int 34,.int 92,.int 47,.int 8,.int 12,.int 10,.int 13,.int 9,.int 0,.int 31,.int 127] (n/8%11)=some (.int (PG.menu.getD (n/8%11).toNat 0)):=by
  have h0:0<=n/8%11:=by omega
  have hi:(n/8%11).toNat<PG.menu.length:=by show _<11;omega
  rw[E3 _ _ h0]
  show(PG.menu.map PV.int)[_]?=_
  rw[List.getElem?_map,List.getD_eq_getElem?_getD,List.getElem?_eq_getElem hi];rfl
 by_cases h1:n%8<2
 . simp[fk,fm,fw,fo,fq,ft,fz,gK,dB,h1]
 . by_cases h2:n%8<4
   . simp[fk,fm,fw,fo,fq,ft,fz,gK,dB,h1,h2,ha]
   . by_cases h3:n%8=4
     . simp[fk,fm,fw,fo,fq,ft,fz,gK,dB,h3]
     . by_cases h4:n%8=5
       . simp[fk,fm,fw,fo,fq,ft,fz,gK,dB,h4]
       . by_cases h5:n%8=6
         . simp[fk,fm,fw,fo,fq,ft,fz,gK,dB,h5]
         . simp[fk,fm,fw,fo,fq,ft,fz,gK,dB,h1,h2,h3,h4,h5]
theorem gV(ns:List Int)(k:Int):eC [.lst (ns.map .int),.int k]=.ok (.fr ((PG.points ns k).map .int)):=by
 have hs:=zm ns k;have hm:=Bj ns k
 have el:∀ m:Nat,dg lz [some (.sh (.lst (ns.map .int))),some (.sh (.int k))] (dE m) =
   .ok ((List.range m).map fun j:Nat=>.int (PG.point (PG.mix ns (k+1+(j:Int))))):=fun m=>by
  unfold dE
  refine jN _ fun j _=>?_
  simp[lz,dJ,lY]
 have hp:(PG.points ns k).map PV.int=(List.range (vG ns k).toNat).map fun j:Nat=>.int (PG.point (PG.mix ns (k+1+(j:Int)))):=by
  unfold PG.points;rw[List.map_map];rfl
 rw[hp]
 have hl:(vG ns k).toNat<=lim:=df (by omega)
 unfold vG at hs hl ⊢
 by_cases h3:PG.mix ns k/5%8=3
 . rw[if_pos h3]at hs hl ⊢
   have h1:-4611686018427387904<=PG.mix ns k/40%14 /\ PG.mix ns k/40%14<4611686018427387904:=by omega
   simp[eC,nv,lJ,lI,lK,dJ,h3,cX,el,h1];unfold lim;omega
 . rw[if_neg h3]at hs hl ⊢
   have h1:-4611686018427387904<=PG.mix ns k%5 /\ PG.mix ns k%5<4611686018427387904:=by omega
   simp[eC,nv,lJ,lI,lK,dJ,h3,cX,el,h1];unfold lim;omega
theorem lV(n:Int)(h:mK n=true):eI [.int n]=.ok (.fr ((bD n).map .int)):=by
 have hn:0<=n:=by
  unfold mK at h;simp only[Bool.or_eq_true,Bool.and_eq_true,decide_eq_true_eq]at h;omega
 unfold bD
 by_cases h1:n<128
 . simp[iC,ir,iu,iy,iB,j1,eI,h1]
 . by_cases h2:n<2048
   . have g2:¬ 2048<=n:=by omega
     have g3:¬ 65536<=n:=by omega
     simp[iC,ir,iu,iy,iB,j1,eI,h1,h2,g2,g3,dE,List.range_succ]
   . by_cases h3:n<65536
     . have g2:2048<=n:=by omega
       have g3:¬ 65536<=n:=by omega
       have e1:n/64/64=n/4096:=by omega
       simp[iC,ir,iu,iy,iB,j1,eI,h1,h2,h3,g2,g3,dE,List.range_succ,e1]
     . have g2:2048<=n:=by omega
       have g3:65536<=n:=by omega
       have e1:n/64/64=n/4096:=by omega
       have e2:n/4096/64=n/262144:=by omega
       simp[iC,ir,iu,iy,iB,j1,eI,h1,h2,h3,g2,g3,dE,List.range_succ,e1,e2]
theorem og(b:Int):iO [.int b]=.ok (.sh (.bl (wht b))):=by
 simp -implicitDefEqProofs [wu,iO,gIn,n8,eT,kz,wht];simp[Bool.beq_eq_decide_eq]
theorem fJ(b:Int):eW [.int b]=.ok (.sh (.bl (fig b))):=by
 by_cases h:48<=b<;>simp -implicitDefEqProofs [uw,eW,fig,h]
theorem iX(b:Int):fK [.int b]=.ok (.sh (match ee b with|some w=>.int w|none=>.non)):=by
 unfold ee
 by_cases h1:48<=b<;>by_cases h2:b<=57<;>by_cases h3:65<=b<;>by_cases h4:b<=70<;>by_cases h5:97<=b<;>by_cases h6:b<=102<;>first|omega|simp -implicitDefEqProofs [qP,qy,qA,ux,fK,fJ,fig,h1,h2,h3,h4,h5,h6]
theorem Ee(b:Int):jr [.int b]=.ok (match tls b with|some l=>.fr (l.map bt)|none=>.sh .non):=by
 have h3:cR [.int b]=.ok (.sh (bt (if b=224 then .sp 160 191 else if b=237 then .sp 128 159 else .sp 128 191))):=by
  by_cases h1:b=224
  . simp[il,ic,i3,cR,h1,bt]
  . by_cases h2:b=237<;>simp[il,ic,i3,cR,h1,h2,bt]
 have h4:dm [.int b]=.ok (.sh (bt (if b=240 then .sp 144 191 else if b=244 then .sp 128 143 else .sp 128 191))):=by
  by_cases h1:b=240
  . simp[iR,iN,jC,dm,h1,bt]
  . by_cases h2:b=244<;>simp[iR,iN,jC,dm,h1,h2,bt]
 unfold tls
 by_cases h0:0<=b /\ b<128
 . simp[lg,lh,la,ll,pZ,jr,h0.1,h0.2]
 . by_cases ha:194<=b /\ b<224
   . have:¬ b<128:=by omega
     have z:0<=b:=by omega
     simp[lg,lh,la,ll,pZ,jr,ha.1,ha.2,z,this,bt]
   . by_cases hb:224<=b /\ b<240
     . have z1:¬ b<128:=by omega
       have z2:¬ b<224:=by omega
       have z:0<=b:=by omega
       have z3:194<=b:=by omega
       simp[lg,lh,la,ll,pZ,jr,hb.1,hb.2,z,z1,z2,z3,h3];simp[bt]
     . by_cases hc:240<=b /\ b<245
       . have z1:¬ b<128:=by omega
         have z2:¬ b<224:=by omega
         have z:0<=b:=by omega
         have z3:194<=b:=by omega
         have z4:224<=b:=by omega
         have z5:¬ b<240:=by omega
         simp[lg,lh,la,ll,pZ,jr,hc.1,hc.2,z,z1,z2,z3,z4,z5,h4];simp[bt]
       . simp only[h0,ha,hb,hc,if_false]
         by_cases g0:0<=b<;>by_cases g1:b<128<;>by_cases g2:194<=b<;>by_cases g3:b<224<;>by_cases g4:224<=b<;>by_cases g5:b<240<;>by_cases g6:240<=b<;>by_cases g7:b<245<;>first|omega|simp[lg,lh,la,ll,pZ,jr,g0,g1,g2,g3,g4,g5,g6,g7]
noncomputable def rI:Option (List PG.It)->RV
 |some l=>.fr (l.map bt)
 |none=>.sh .non
theorem gg(b:Int):dP [.int b]=.ok (rI (kG b)):=by
 unfold kG
 by_cases h0:b=48
 . simp[ko,kr,mW,dP,h0,rI,bt]
 . by_cases h1:48<=b<;>by_cases h2:b<=57<;>simp[ko,kr,mW,dP,h0,h1,h2,fJ,fig,rI,bt]
theorem fF(b:Int):bM [.int b]=.ok (rI (jm b)):=by
 unfold jm
 by_cases h1:b=91
 . simp[cO,cL,cN,cH,cJ,cM,cK,dr,bM,h1,rI,bt]
 by_cases h2:b=123
 . simp[cO,cL,cN,cH,cJ,cM,cK,dr,bM,h2,rI,bt]
 by_cases h3:b=34
 . simp[cO,cL,cN,cH,cJ,cM,cK,dr,bM,h3,rI,bt]
 by_cases h4:b=45
 . simp[cO,cL,cN,cH,cJ,cM,cK,dr,bM,h4,rI,bt]
 by_cases h5:b=110
 . simp[cO,cL,cN,cH,cJ,cM,cK,dr,bM,h5,rI,bt,j8,eY,gz,cC,wj,dg,cX,List.lookup]
 by_cases h6:b=116
 . simp[cO,cL,cN,cH,cJ,cM,cK,dr,bM,h6,rI,bt,j8,eY,gz,cC,wj,dg,cX,List.lookup]
 by_cases h7:b=102
 . simp[cO,cL,cN,cH,cJ,cM,cK,dr,bM,h7,rI,bt,j8,eY,gz,cC,wj,dg,cX,List.lookup]
 have z5:(b==110)=false:=by simpa using h5
 have z6:(b==116)=false:=by simpa using h6
 have z7:(b==102)=false:=by simpa using h7
 simp[cO,cL,cN,cH,cJ,cM,cK,dr,bM,h1,h2,h3,h4,h5,h6,h7,z5,z6,z7,j8,eY,gz,cC,List.lookup,gg]
 cases kG b<;>simp[rI]
theorem dq:eE []=.ok (.fr (qq.map bt)):=by
 simp[qH,eE,qq,bt]
theorem m3(it:PG.It)(b:Int)(h:it=.lead \/ it=.figures \/ it=.fraction \/ it=.exponent \/ it=.sign):aX [bt it,.int b]=.ok (rI (bh it b)):=by
 rcases h with rfl|rfl|rfl|rfl|rfl
 . simp[bC,bA,bz,bI,bX,aX,bt,gEq,eqS,aH,gg]
   cases e:kG b<;>simp[bh,rI,e]
 . by_cases h1:48<=b<;>by_cases h2:b<=57<;>simp[bC,bA,bz,bI,bX,aX,bt,gEq,eqS,aH,fJ,fig,bh,rI,h1,h2]
 . by_cases h1:b=46<;>simp[bC,bA,bz,bI,bX,aX,bt,gEq,eqS,aH,bh,rI,h1]
 . by_cases h1:b=101
   . simp[bC,bA,bz,bI,bX,aX,bt,gEq,eqS,aH,bh,rI,h1,gIn,n8,eT,kz]
   . by_cases h2:b=69
     . simp[bC,bA,bz,bI,bX,aX,bt,gEq,eqS,aH,bh,rI,h2,gIn,n8,eT,kz]
     . have z1:¬ 101=b:=fun z=>h1 z.symm
       have z2:¬ 69=b:=fun z=>h2 z.symm
       simp[bC,bA,bz,bI,bX,aX,bt,gEq,eqS,aH,bh,rI,h1,h2,z1,z2,gIn,n8,eT,kz]
 . by_cases h1:b=43
   . simp[bC,bA,bz,bI,bX,aX,bt,gEq,eqS,aH,bh,rI,h1,gIn,n8,eT,kz]
   . by_cases h2:b=45
     . simp[bC,bA,bz,bI,bX,aX,bt,gEq,eqS,aH,bh,rI,h2,gIn,n8,eT,kz]
     . have z1:¬ 43=b:=fun z=>h1 z.symm
       have z2:¬ 45=b:=fun z=>h2 z.symm
       simp[bC,bA,bz,bI,bX,aX,bt,gEq,eqS,aH,bh,rI,h1,h2,z1,z2,gIn,n8,eT,kz]
theorem jx(b:Int):∃ x,bN [.int b]=.ok (.sh x) /\ cC x=!x9 b:=by
 unfold x9
 by_cases h1:b=34
 . exact⟨.int 34,by simp[cV,bN,gz,List.lookup,h1],by simp[cC,h1]⟩
 by_cases h2:b=92
 . exact⟨.int 92,by simp[cV,bN,gz,List.lookup,h2],by simp[cC,h2]⟩
 by_cases h3:b=47
 . exact⟨.int 47,by simp[cV,bN,gz,List.lookup,h3],by simp[cC,h3]⟩
 by_cases h4:b=98
 . exact⟨.int 8,by simp[cV,bN,gz,List.lookup,h4],by simp[cC,h4]⟩
 by_cases h5:b=102
 . exact⟨.int 12,by simp[cV,bN,gz,List.lookup,h5],by simp[cC,h5]⟩
 by_cases h6:b=110
 . exact⟨.int 10,by simp[cV,bN,gz,List.lookup,h6],by simp[cC,h6]⟩
 by_cases h7:b=114
 . exact⟨.int 13,by simp[cV,bN,gz,List.lookup,h7],by simp[cC,h7]⟩
 by_cases h8:b=116
 . exact⟨.int 9,by simp[cV,bN,gz,List.lookup,h8],by simp[cC,h8]⟩
 have zz:∀ k:Int,¬ b=k->(b==k)=false:=fun k h=>by simpa using h
 exact⟨.non,by simp[cV,bN,gz,List.lookup,zz _ h1,zz _ h2,zz _ h3,zz _ h4,zz _ h5,zz _ h6,zz _ h7,zz _ h8],by simp[cC,h1,h2,h3,h4,h5,h6,h7,h8]⟩
theorem fS(b:Int):cy [.int b]=.ok (rI (Dr b)):=by
 obtain⟨x,hx,hn⟩:=jx b;unfold Dr
 by_cases h1:b=117
 . simp[iF,cy,h1,rI,bt]
 . cases hs:x9 b<;>rw[hs]at hn<;>simp at hn<;>simp[iF,cy,h1,hx,hn,rI]
theorem GJ(b:Int)(l:List PG.It)(h:tls b=some l):l.length<=3:=by
 unfold tls at h
 repeat' split at h
 all_goals(first|(cases h;done)|(injection h with h;subst h;simp))
theorem fY(b:Int):bW [.int b]=.ok (rI (rK b)):=by
 have ht:=Ee b;unfold rK
 by_cases h1:b=34
 . simp[dQ,dX,dW,dZ,eM,bW,h1,rI]
 by_cases h2:b=92
 . simp[dQ,dX,dW,dZ,eM,bW,h2,rI,bt]
 cases e:tls b with
 | none=>
   rw[e]at ht
   by_cases h3:b<32<;>simp[dQ,dX,dW,dZ,eM,bW,h1,h2,h3,rI,ht,cC]
 | some l=>
   rw[e]at ht
   have hl:l.length+1<=lim:=df (by have:=GJ b l e;omega)
   by_cases h3:b<32<;>simp[dQ,dX,dW,dZ,eM,bW,h1,h2,h3,rI,ht,cC,hl,bt]
theorem iE(w:Int):dC [.int w]=.ok (rI (yk w)):=by
 unfold yk
 by_cases h1:w<8
 . simp[jn,jl,kl,dC,h1,rI,bt]
 . by_cases h2:w<12<;>simp[jn,jl,kl,dC,h1,h2,rI,bt]
theorem uT(it:PG.It)(b:Int)(h:it=.text \/ it=.escape \/ it=.code \/ it=.coded):bJ [bt it,.int b]=.ok (rI (bh it b)):=by
 have hw:=iX b
 rcases h with rfl|rfl|rfl|rfl
 . simp[dk,dj,de,dc,dh,dI,bJ,bt,gEq,eqS,aH,fY]
   cases e:rK b<;>simp[bh,rI,e]
 . simp[dk,dj,de,dc,dh,dI,bJ,bt,gEq,eqS,aH,fS]
   cases e:Dr b<;>simp[bh,rI,e]
 . cases e:ee b with
   | none=>
     rw[e]at hw;simp[dk,dj,de,dc,dh,dI,bJ,bt,gEq,eqS,aH,hw,cC,bh,e,rI]
   | some w=>
     rw[e]at hw
     by_cases h13:w=13<;>simp[dk,dj,de,dc,dh,dI,bJ,bt,gEq,eqS,aH,hw,cC,bh,e,rI,h13]
 . cases e:ee b with
   | none=>
     rw[e]at hw;simp[dk,dj,de,dc,dh,dI,bJ,bt,gEq,eqS,aH,hw,cC,bh,e,rI]
   | some w=>
     rw[e]at hw;simp[dk,dj,de,dc,dh,dI,bJ,bt,gEq,eqS,aH,hw,cC,bh,e,iE]
     cases e2:yk w<;>simp[rI]
theorem Az(it:PG.It)(b:Int)(h:it=.hex \/ it=.hexd \/ it=.hexcf):dy [bt it,.int b]=.ok (rI (bh it b)):=by
 have hw:=iX b
 cases e:ee b with
 | none=>
   rw[e]at hw
   rcases h with rfl|rfl|rfl<;>simp[gQ,gL,gG,gB,jy,dy,bt,gEq,eqS,aH,hw,cC,bh,e,rI]
 | some w=>
   rw[e]at hw
   rcases h with rfl|rfl|rfl
   . simp[gQ,gL,gG,gB,jy,dy,bt,gEq,eqS,aH,hw,cC,bh,e,rI]
   . by_cases h13:w=13<;>simp[gQ,gL,gG,gB,jy,dy,bt,gEq,eqS,aH,hw,cC,bh,e,rI,h13]
   . by_cases h13:12<=w<;>simp[gQ,gL,gG,gB,jy,dy,bt,gEq,eqS,aH,hw,cC,bh,e,rI,h13]
theorem Dt(b:Int)(l:List PG.It)(h:jm b=some l):l.length<=5:=by
 unfold jm kG at h
 repeat' split at h
 all_goals(first|(cases h;done)|(injection h with h;subst h;decide))
theorem fL(b:Int):b7 [.int b]=.ok (rI (bh .row b)):=by
 have hv:=fF b
 by_cases h1:b=93
 . simp[fb,eZ,fT,b7,h1,rI,bh]
 cases e:jm b with
 |none=>rw[e]at hv;simp[fb,eZ,fT,b7,h1,hv,rI,bh,e,cC]
 | some l=>
   rw[e]at hv
   have hl:l.length+2<=lim:=df (by have:=Dt b l e;omega)
   simp[fb,eZ,fT,b7,h1,hv,rI,bh,e,cC,bt,hl]
theorem eQ(b:Int):bY [.int b]=.ok (rI (bh .fields b)):=by
 by_cases h1:b=125
 . simp[gi,bY,h1,rI,bh]
 by_cases h2:b=34<;>simp[gi,bY,h1,h2,rI,bh,dq,qq,bt]
theorem lR(it:PG.It)(b:Int)(h:it=.row \/ it=.mrow \/ it=.fields \/ it=.mfields):bc [bt it,.int b]=.ok (rI (bh it b)):=by
 rcases h with rfl|rfl|rfl|rfl
 . simp[b5,b6,b8,b4,cB,bc,bt,gEq,eqS,aH,fL]
   cases e:bh .row b<;>simp[rI]
 . by_cases h1:b=44
   . simp[b5,b6,b8,b4,cB,bc,bt,gEq,eqS,aH,h1,bh,rI]
   . by_cases h2:b=93<;>simp[b5,b6,b8,b4,cB,bc,bt,gEq,eqS,aH,h1,h2,bh,rI]
 . simp[b5,b6,b8,b4,cB,bc,bt,gEq,eqS,aH,eQ]
   cases e:bh .fields b<;>simp[rI]
 . by_cases h1:b=44
   . simp[b5,b6,b8,b4,cB,bc,bt,gEq,eqS,aH,h1,bh,rI,dq,qq]
   . by_cases h2:b=125<;>simp[b5,b6,b8,b4,cB,bc,bt,gEq,eqS,aH,h1,h2,bh,rI]
theorem wX(o:Option (List PG.It))(xs:List PV):rI o≠.al xs:=by cases o<;>simp[rI]
theorem b9{x:PV}{b:Int}{ρ:ag}{o:Option (List PG.It)}(h:vq [some (.sh x),some (.sh (.int b))]=.rt ρ (rI o)):ke [x,.int b]=.ok (rI o):=Eq.trans (congrArg fin h) (Ku (wX o))
theorem rR(it:PG.It)(b:Int):ke [bt it,.int b]=.ok (rI (bh it b)):=by
 have t1:∀ it:PG.It,aX [bt it,.int b]=.ok (rI (bh it b))->_:=fun it h=>p5 h (wX _)
 have t2:∀ it:PG.It,bJ [bt it,.int b]=.ok (rI (bh it b))->_:=fun it h=>p5 h (wX _)
 have t3:∀ it:PG.It,dy [bt it,.int b]=.ok (rI (bh it b))->_:=fun it h=>p5 h (wX _)
 have t4:∀ it:PG.It,bc [bt it,.int b]=.ok (rI (bh it b))->_:=fun it h=>p5 h (wX _)
 cases it with
 |sp lo hi=>by_cases h1:lo<=b<;>by_cases h2:b<=hi<;>simp[vP,wo,vB,vc,vM,u9,vy,vq,ke,bt,isP,h1,h2,bh,rI]
 |bg=>exact b9 (ρ:=[some (.sh (bt .bg)),some (.sh (.int b))]) ((sk (by rfl)).trans ((sk (by rfl)).trans ((sk (by rfl)).trans ((sk (by rfl)).trans ((sk (by rfl)).trans (st (by rfl) (by cases h:wht b<;>simp[gk,og,h,bh,rI,bt])))))))
 |name=>exact b9 (ρ:=[some (.sh (bt .name)),some (.sh (.int b))]) ((sk (by rfl)).trans ((sk (by rfl)).trans ((sk (by rfl)).trans ((sk (by rfl)).trans ((sk (by rfl)).trans ((sk (by rfl)).trans (st (by rfl) (by by_cases h:b=34<;>simp[gk,h,bh,rI,bt]))))))))
 |value=>exact b9 ((sk (by rfl)).trans ((sk (by rfl)).trans ((sk (by rfl)).trans ((sk (by rfl)).trans ((sk (by rfl)).trans ((sk (by rfl)).trans ((sk (by rfl)).trans (CT (fF b) (wX _)))))))))
 |lead=>exact b9 ((sk (by rfl)).trans (st (by rfl) (t1 .lead (m3 _ b (by simp)))))
 |figures=>exact b9 ((sk (by rfl)).trans (st (by rfl) (t1 .figures (m3 _ b (by simp)))))
 |fraction=>exact b9 ((sk (by rfl)).trans (st (by rfl) (t1 .fraction (m3 _ b (by simp)))))
 |exponent=>exact b9 ((sk (by rfl)).trans (st (by rfl) (t1 .exponent (m3 _ b (by simp)))))
 |sign=>exact b9 ((sk (by rfl)).trans (st (by rfl) (t1 .sign (m3 _ b (by simp)))))
 |text=>exact b9 ((sk (by rfl)).trans ((sk (by rfl)).trans (st (by rfl) (t2 .text (uT _ b (by simp))))))
 |escape=>exact b9 ((sk (by rfl)).trans ((sk (by rfl)).trans (st (by rfl) (t2 .escape (uT _ b (by simp))))))
 |code=>exact b9 ((sk (by rfl)).trans ((sk (by rfl)).trans (st (by rfl) (t2 .code (uT _ b (by simp))))))
 |coded=>exact b9 ((sk (by rfl)).trans ((sk (by rfl)).trans (st (by rfl) (t2 .coded (uT _ b (by simp))))))
 |hex=>exact b9 ((sk (by rfl)).trans ((sk (by rfl)).trans ((sk (by rfl)).trans (st (by rfl) (t3 .hex (Az _ b (by simp)))))))
 |hexd=>exact b9 ((sk (by rfl)).trans ((sk (by rfl)).trans ((sk (by rfl)).trans (st (by rfl) (t3 .hexd (Az _ b (by simp)))))))
 |hexcf=>exact b9 ((sk (by rfl)).trans ((sk (by rfl)).trans ((sk (by rfl)).trans (st (by rfl) (t3 .hexcf (Az _ b (by simp)))))))
 |row=>exact b9 ((sk (by rfl)).trans ((sk (by rfl)).trans ((sk (by rfl)).trans ((sk (by rfl)).trans (st (by rfl) (t4 .row (lR _ b (by simp))))))))
 |mrow=>exact b9 ((sk (by rfl)).trans ((sk (by rfl)).trans ((sk (by rfl)).trans ((sk (by rfl)).trans (st (by rfl) (t4 .mrow (lR _ b (by simp))))))))
 |fields=>exact b9 ((sk (by rfl)).trans ((sk (by rfl)).trans ((sk (by rfl)).trans ((sk (by rfl)).trans (st (by rfl) (t4 .fields (lR _ b (by simp))))))))
 |mfields=>exact b9 ((sk (by rfl)).trans ((sk (by rfl)).trans ((sk (by rfl)).trans ((sk (by rfl)).trans (st (by rfl) (t4 .mfields (lR _ b (by simp))))))))
noncomputable abbrev cm(st:List PG.It):List PV:=st.reverse.map bt
theorem yy(st:List PG.It):PG.wk st=.ob "Walk" ["coming"] [.ol ((cm st).map .sh)]:=rfl
theorem A4(st:List PG.It):(PG.wk st).get [.fd "coming"]=some (.ol ((cm st).map .sh)):=by
 simp[yy,OV.get,OV.at1,pd]
theorem Ek(st:List PG.It)(t:OV):(PG.wk st).put [.fd "coming"] t=.ob "Walk" ["coming"] [t]:=by
 simp[yy,OV.put,OV.at1,OV.ky,pd,wI]
theorem AV{ρ:ag}{i:Nat}{s:Sl}{st:List PG.It}(h:ρ[i]?=some (some s))(hs:slT s=some (PG.wk st)):subAt i aI ρ=some (PG.wk st):=by
 unfold subAt fU aI;rw[h];simp[hs]
theorem Bg{ρ:ag}{i:Nat}{s:Sl}{st:List PG.It}(h:ρ[i]?=some (some s))(hs:slT s=some (PG.wk st)):pFd i aI "coming" m8 ρ=some [.fd "coming"]:=by
 unfold pFd;rw[AV h hs,yy];simp[m8,pd,aI]
theorem uW{ρ:ag}{i:Nat}{s:Sl}{st:List PG.It}(h:ρ[i]?=some (some s))(hs:slT s=some (PG.wk st)):subAt i (pFd i aI "coming" m8) ρ=some (.ol ((cm st).map .sh)):=by
 unfold subAt fU;rw[h,Bg h hs];simp[hs,A4]
theorem Mg(it:PG.It):gu [some (.sh (bt it))]=.ok (opn it):=by
 cases it<;>simp -implicitDefEqProofs [gu,bt,gIn,n8,eT,opn,kz]
theorem CP(l:List PG.It):gf gu jt [] (l.map bt)=.ok ((l.filter opn).map bt):=by
 induction l with
 |nil=>rfl
 | cons it l ih=>
   rw[List.map_cons];unfold gf;have h:=Mg it
   have he:jt [some (.sh (bt it))]=.ok (.sh (bt it)):=rfl
   cases e:opn it<;>rw[e]at h<;>simp[h,ih,e,he]
theorem Bk(st:List PG.It)(hl:st.length<=100000):cD [.bo (PG.wk st)]=.ok (.int (PG.cnt st)) [none]:=by
 have hp:cF 0 (pFd 0 aI "coming" m8) [some (.bo (PG.wk st))]=.ok (.al (cm st)):=by
  unfold cF;rw[uW (s:=.bo (PG.wk st)) rfl rfl];simp only[tJ]
 have hc:(st.reverse.filter opn).length=PG.cnt st:=by unfold PG.cnt;rw[List.filter_reverse,List.length_reverse]
 have hn:PG.cnt st<=lim:=df (by unfold PG.cnt;have:=List.length_filter_le opn st;omega)
 have he:=CP st.reverse
 simp -implicitDefEqProofs only[cD,oJ,fnI,km,j9,hp,cX,List.map_nil,he,ER,CB,List.map_cons,List.length_cons,List.length_nil,List.replicate,List.append_nil,ng,DX,FD,List.length_map,hc,hn,if_true,Js,yf,fu,Ew,Nat.sub_self,tX]
 rfl
theorem Gy(it:PG.It):tY (bt it) (.tup [.str "white",.str "figures",.str "fraction",.str "exponent",.str "sign"])=some (.sh (.bl (!PG.loose it))):=by
 cases it<;>simp -implicitDefEqProofs [bt,tY,n8,eT,PG.loose,kz]
theorem F8(it:PG.It):gIn (bt it) (.tup [.str "white",.str "figures",.str "fraction",.str "exponent",.str "sign"])=some (.sh (.bl (PG.loose it))):=by
 cases it<;>simp -implicitDefEqProofs [bt,gIn,n8,eT,PG.loose,kz]
theorem Kh{ρ:ag}{i:Nat}{io:Bool}{it:PG.It}{st:List PG.It}(h:ρ[i]?=some (some (.tr io (PG.wk (it ::st))))):qr i (pFd i aI "coming" m8) ρ=.ok (ρ.set i (some (.tr io (PG.wk st)))) (.sh (bt it)):=by
 have hc:(cm (it ::st)).map OV.sh=(cm st).map OV.sh++[.sh (bt it)]:=by simp[cm]
 unfold qr;rw[h,Bg h rfl];simp only[A4,hc,List.getLast?_concat,List.dropLast_concat,Ek];rfl
theorem La{ρ:ag}{i:Nat}{io:Bool}{l st:List PG.It}{me:ag->OE}(h:ρ[i]?=some (some (.tr io (PG.wk st))))(he:me ρ=.ok (.fr (l.map bt).reverse))(hl:st.length+l.length<=100000):
  dH i (pFd i aI "coming" m8) me ρ=.nx (ρ.set i (some (.tr io (PG.wk (l++st))))):=by
 have hc:(cm (l++st)).map OV.sh=(cm st).map OV.sh++(l.map bt).reverse.map .sh:=by simp[cm]
 have hl2:st.length+l.length<=lim:=df (by omega)
 unfold dH tq;rw[h,Bg h rfl];simp only[A4,he,fu,List.length_map,List.length_reverse,hl2,if_true,Ek];rw[yy,hc]
theorem zP{ρ:ag}{i:Nat}{io:Bool}{st:List PG.It}(h:ρ[i]?=some (some (.tr io (PG.wk st)))):du i (pFd i aI "coming" m8) ρ=.ok (!st.isEmpty):=by
 unfold du;rw[uW h rfl]
 cases st<;>simp[cm]
theorem Hv{ρ:ag}{i:Nat}{io:Bool}{st:List PG.It}(h:ρ[i]?=some (some (.tr io (PG.wk st))))(hl:st.length<=100000):nZ "Walk" "brackets" cD [.b i aI] ρ=.ok (.sh (.int (PG.cnt st))):=by
 have ha:kn (.b i aI) ρ=some (.bo (PG.wk st)):=by
  simp only[kn];rw[AV h rfl];rfl
 have hr:recv "Walk" "brackets" (some (.bo (PG.wk st)))=true:=by
  rw[yy];simp[recv,aH]
 simp only[nZ,ha,hr,if_true,yt,i0,Option.bind_some,Option.map_some,Bk st hl]
theorem C5(b:Int)(it:PG.It)(st:List PG.It)(io:Bool)(x y:Option Sl)(hl:st.length+8<=100000):gW [some (.tr io (PG.wk (it ::st))),some (.sh (.int b)),x,y] =
  match bh it b with
  |some l=>.rt [some (.tr io (PG.wk (l++st))),some (.sh (.int b)),some (.sh (bt it)),some (.ow (l.map bt))] (.sh (.bl (decide (PG.cnt (l++st)<=64))))
  |none=>if PG.loose it then .nx [some (.tr io (PG.wk st)),some (.sh (.int b)),some (.sh (bt it)),some (.sh .non)]else .rt [some (.tr io (PG.wk st)),some (.sh (.int b)),some (.sh (bt it)),some (.sh .non)] (.sh (.bl false)):=by
 have h1:hX 2 (qr 0 (pFd 0 aI "coming" m8)) [some (.tr io (PG.wk (it ::st))),some (.sh (.int b)),x,y]=.nx [some (.tr io (PG.wk st)),some (.sh (.int b)),some (.sh (bt it)),y]:=by
  unfold hX;rw[Kh (it:=it) (st:=st) (io:=io) rfl];rfl
 have hb:=rR it b;have hlo:=Gy it;unfold gW;simp only[pI,h1,jI]
 cases e:bh it b with
 | none=>
   rw[e]at hb
   cases e2:PG.loose it<;>rw[e2]at hlo<;>simp -implicitDefEqProofs [hb,rI,cC,hlo]
 | some l=>
   rw[e]at hb;have hll:=E1 it b l e
   have h2:dH 0 (pFd 0 aI "coming" m8) (DI (ao 3) (mUn gn (mC (.int 1)))) [some (.tr io (PG.wk st)),some (.sh (.int b)),some (.sh (bt it)),some (.ow (l.map bt))]=.nx [some (.tr io (PG.wk (l++st))),some (.sh (.int b)),some (.sh (bt it)),some (.ow (l.map bt))]:=
    La (io:=io) rfl (by simp[DI]) (by omega)
   have h3:nZ "Walk" "brackets" cD [.b 0 aI] [some (.tr io (PG.wk (l++st))),some (.sh (.int b)),some (.sh (bt it)),some (.ow (l.map bt))]=.ok (.sh (.int (PG.cnt (l++st)))):=Hv (io:=io) rfl (by simp;omega)
   have h4:(decide ((PG.cnt (l++st):Int)<=64))=decide (PG.cnt (l++st)<=64):=by rw[decide_eq_decide];omega
   simp -implicitDefEqProofs [hb,rI,cC,h2,h3,h4]
theorem C7(b:Int)(io:Bool)(st:List PG.It):∀(n:Nat) (x y:Option Sl),st.length<n->st.length+8<=100000 ->
  ∃ x' y',(fV gZ gW n [some (.tr io (PG.wk st)),some (.sh (.int b)),x,y]).andThen (aZ (mC (.bl false)))=.rt [some (.tr io (PG.wk (gon st b).1)),some (.sh (.int b)),x',y'] (.sh (.bl (gon st b).2)):=by
 induction st with
 | nil=>
   intro n x y hn hl
   obtain⟨m,rfl⟩:∃ m,n=m+1:=⟨n - 1,by simp at hn;omega⟩
   refine⟨x,y,?_⟩
   have hc:gZ [some (.tr io (PG.wk [])),some (.sh (.int b)),x,y]=.ok false:=zP (i:=0) (ρ:=[some (.tr io (PG.wk [])),some (.sh (.int b)),x,y]) (io:=io) (st:=[]) rfl
   simp[fV,hc,gon]
 | cons it st ih=>
   intro n x y hn hl
   obtain⟨m,rfl⟩:∃ m,n=m+1:=⟨n - 1,by simp at hn;omega⟩
   have hc:gZ [some (.tr io (PG.wk (it ::st))),some (.sh (.int b)),x,y]=.ok true:=zP (i:=0) (ρ:=[some (.tr io (PG.wk (it ::st))),some (.sh (.int b)),x,y]) (io:=io) (st:=it ::st) rfl
   have ht:=C5 b it st io x y (by simp at hl;omega);unfold gon
   cases e:bh it b with
   | some l=>
     rw[e]at ht
     exact⟨some (.sh (bt it)),some (.ow (l.map bt)),by simp only[fV,hc,lq,if_true,ht,BF,vd]⟩
   | none=>
     rw[e]at ht
     dsimp only at ht ⊢
     cases e2:PG.loose it with
     | false=>
       rw[e2]at ht
       exact⟨some (.sh (bt it)),some (.sh .non),by simp only[fV,hc,lq,if_true,ht,BF,vd,Bool.false_eq_true,if_false]⟩
     | true=>
       rw[e2]at ht;obtain⟨x',y',h⟩:=ih m (some (.sh (bt it))) (some (.sh .non)) (by simp at hn;omega) (by simp at hl;omega)
       exact⟨x',y',by simp only[fV,hc,lq,if_true,ht,nG,h]⟩
theorem CZ(b:Int)(st:List PG.It)(hl:st.length+8<100000):dY [.tr true (PG.wk st),.sh (.int b)]=.ok (.bl (gon st b).2) [some (PG.wk (gon st b).1),none]:=by
 obtain⟨x',y',h⟩:=C7 b true st fuel none none (by unfold fuel;omega) (by omega)
 have e:i7 [some (.tr true (PG.wk st)),some (.sh (.int b)),none,none]=_:=h
 show fnI 2 4 i7 _=_;unfold fnI;rw[if_pos (by rfl)];show tX 2 (i7 [some (.tr true (PG.wk st)),some (.sh (.int b)),none,none])=_;rw[e];rfl
theorem Dp(io:Bool)(rw:PV)(row:List Int):∀(k:Nat) (st:List PG.It) (x y:Option Sl),st.length+8*row.length+8<100000 ->
  ∃ x' y',n9 2 3 j0 (uq k (row.map .int)) [some (.tr io (PG.wk st)),some (.sh rw),x,y]=if(PG.tk st row).2=row.length then .nx [some (.tr io (PG.wk (PG.tk st row).1)),some (.sh rw),x',y']else .rt [some (.tr io (PG.wk (PG.tk st row).1)),some (.sh rw),x',y'] (.sh (.int ((k+(PG.tk st row).2:Nat):Int))):=by
 induction row with
 |nil=>intro k st x y hl;exact⟨x,y,by simp[uq,n9,PG.tk]⟩
 | cons b row ih=>
   intro k st x y hl;simp only[List.length_cons]at hl;have hg:=CZ b st (by omega);have hlen:=BI st b
   have ht:j0 [some (.tr io (PG.wk st)),some (.sh rw),some (.sh (.int k)),some (.sh (.int b))]=if(gon st b).2 then .nx [some (.tr io (PG.wk (gon st b).1)),some (.sh rw),some (.sh (.int k)),some (.sh (.int b))]else .rt [some (.tr io (PG.wk (gon st b).1)),some (.sh rw),some (.sh (.int k)),some (.sh (.int b))] (.sh (.int k)):=by
    have ha:kn (.t 0 aI) [some (.tr io (PG.wk st)),some (.sh rw),some (.sh (.int k)),some (.sh (.int b))]=some (.tr true (PG.wk st)):=by simp[kn,aI]
    have ha2:kn (.e (ao 3)) [some (.tr io (PG.wk st)),some (.sh rw),some (.sh (.int k)),some (.sh (.int b))]=some (.sh (.int b)):=by simp[kn]
    have hr:recv "Walk" "goes_on" (some (.tr true (PG.wk st)))=true:=by rw[yy];simp[recv,aH]
    have hx:lp "Walk" "goes_on" dY [.t 0 aI,.e (ao 3)] [some (.tr io (PG.wk st)),some (.sh rw),some (.sh (.int k)),some (.sh (.int b))]=.ok [some (.tr io (PG.wk (gon st b).1)),some (.sh rw),some (.sh (.int k)),some (.sh (.int b))] (.sh (.bl (gon st b).2)):=by
     simp only[lp,ha,hr,if_true,iS,i0,ha2,Option.bind_some,Option.map_some,hg];simp[fj,jA,aI]
    unfold j0 He;rw[hx]
    cases(gon st b).2<;>simp
   unfold PG.tk;simp only[List.map_cons,uq,n9,List.set_cons_succ,List.set_cons_zero,ht]
   cases e:(gon st b).2 with
   |false=>exact⟨some (.sh (.int k)),some (.sh (.int b)),by simp⟩
   | true=>
     obtain⟨x',y',h⟩:=ih (k+1) (gon st b).1 (some (.sh (.int k))) (some (.sh (.int b))) (by omega)
     refine⟨x',y',?_⟩
     simp only[if_true,nG,h,List.length_cons,Nat.add_right_cancel_iff]
     have:k+1+(PG.tk (gon st b).1 row).2=k+((PG.tk (gon st b).1 row).2+1):=by omega
     rw[this]
theorem EU(st:List PG.It)(row:List Int)(hl:st.length+8*row.length+8<100000):eG [.tr true (PG.wk st),.sh (.lst (row.map .int))]=.ok (.int (PG.tk st row).2) [some (PG.wk (PG.tk st row).1),none]:=by
 obtain⟨x',y',h⟩:=Dp true (.lst (row.map .int)) row 0 st none none hl;show fnI 2 4 mv _=_;unfold fnI;rw[if_pos (by rfl)];show tX 2 (mv [some (.tr true (PG.wk st)),some (.sh (.lst (row.map .int))),none,none])=_;unfold mv BJ;simp only[pI,AX,List.getElem?_cons_succ,List.getElem?_cons_zero,fu,Bz,h]
 by_cases e:(PG.tk st row).2=row.length
 . simp[e,tX,pA]
 . simp[e,tX,pA]
theorem Ba(st:List PG.It)(hl:st.length<=100000):cZ [.bo (PG.wk st)]=.ok (.bl (st.all PG.loose)) [none]:=by
 have hp:cF 0 (pFd 0 aI "coming" m8) [some (.bo (PG.wk st))]=.ok (.al (cm st)):=by
  unfold cF;rw[uW (s:=.bo (PG.wk st)) rfl rfl];simp only[tJ]
 have hn:st.length<=lim:=df (by omega)
 have he:dg jc [] (cm st)=.ok ((st.reverse.map PG.loose).map .bl):=by
  rw[List.map_map]
  refine jN _ fun it _=>?_
  simp[jc,F8]
 have hb:Dx (.lst ((st.reverse.map PG.loose).map .bl))=some (.sh (.bl (st.all PG.loose))):=by
  simp only[Dx,uk,Option.map_some]
  congr 3
  rw[List.all_map,List.all_reverse];rfl
 simp -implicitDefEqProofs only[cZ,oF,fnI,km,Fj,hp,cX,List.map_nil,he,ER,CB,List.map_cons,List.length_cons,List.length_nil,List.replicate,List.append_nil,ng,DX,FD,List.length_map,List.length_reverse,hn,if_true,hb,yf,fu,Ew,Nat.sub_self,tX]
 rfl
theorem D5:cg [.tr true (.ob "Walk" [] [])]=.ok .non [some (PG.wk st0)]:=by
 rfl
theorem EO(row:List Int):∀ st,(PG.tk st row).1.length<=st.length+8*row.length+8:=by
 induction row with
 |nil=>intro st;simp[PG.tk]
 | cons b row ih=>
   intro st;have:=BI st b;have h2:=ih (gon st b).1;unfold PG.tk
   split<;>simp only[List.length_cons]<;>omega
noncomputable def ofO:Option Nat->PV
 |some k=>.int k
 |none=>.non
theorem uV(row:List Int)(hl:8*row.length+20<100000):kM [.lst (row.map .int)]=.ok (.sh (ofO (PG.flt row))):=by
 have ht:=EU st0 row (by simp[st0];omega);have hlen:=EO row st0;have hw:=Ba (PG.tk st0 row).1 (by have:st0.length=3:=rfl;omega)
 have h0:sA "Walk" cg [some (.sh (.lst (row.map .int))),none,none]=.ok (PG.wk st0):=by unfold sA;rw[D5]
 have h1:hX 2 (lp "Walk" "take" eG [.t 1 aI,.e (ao 0)]) [some (.sh (.lst (row.map .int))),some (.tr false (PG.wk st0)),none]=.nx [some (.sh (.lst (row.map .int))),some (.tr false (PG.wk (PG.tk st0 row).1)),some (.sh (.int (PG.tk st0 row).2))]:=by
  have ha:kn (.t 1 aI) [some (.sh (.lst (row.map .int))),some (.tr false (PG.wk st0)),none]=some (.tr true (PG.wk st0)):=by simp[kn,aI]
  have ha2:kn (.e (ao 0)) [some (.sh (.lst (row.map .int))),some (.tr false (PG.wk st0)),none]=some (.sh (.lst (row.map .int))):=by simp[kn]
  have hr:recv "Walk" "take" (some (.tr true (PG.wk st0)))=true:=by rw[yy];simp[recv,aH]
  unfold hX;simp only[lp,ha,hr,if_true,iS,i0,ha2,Option.bind_some,Option.map_some,ht];simp[fj,jA,aI,nio]
 have h2:nZ "Walk" "is_whole" cZ [.b 1 aI] [some (.sh (.lst (row.map .int))),some (.tr false (PG.wk (PG.tk st0 row).1)),some (.sh (.int (PG.tk st0 row).2))]=.ok (.sh (.bl ((PG.tk st0 row).1.all PG.loose))):=by
  have ha:kn (.b 1 aI) [some (.sh (.lst (row.map .int))),some (.tr false (PG.wk (PG.tk st0 row).1)),some (.sh (.int (PG.tk st0 row).2))]=some (.bo (PG.wk (PG.tk st0 row).1)):=by
   simp only[kn];rw[AV (s:=.tr false (PG.wk (PG.tk st0 row).1)) rfl rfl];rfl
  have hr:recv "Walk" "is_whole" (some (.bo (PG.wk (PG.tk st0 row).1)))=true:=by rw[yy];simp[recv,aH]
  simp only[nZ,ha,hr,if_true,yt,i0,Option.bind_some,Option.map_some,hw]
 unfold PG.flt
 have hd:j6 1 (sA "Walk" cg) [some (.sh (.lst (row.map .int))),none,none]=.nx [some (.sh (.lst (row.map .int))),some (.tr false (PG.wk st0)),none]:=by
  unfold j6;rw[h0];rfl
 simp -implicitDefEqProofs only[kM,Cj,sC,CA,List.map_cons,List.map_nil,List.length_cons,List.length_nil,List.cons_append,List.nil_append,List.replicate,pI,hd,jI,xA,h1,xc,Bp,GW,HM,Ik,AX,List.getElem?_cons_succ,List.getElem?_cons_zero,CB,ng,FP,h2]
 by_cases e:(PG.tk st0 row).2=row.length
 . cases e2:(PG.tk st0 row).1.all PG.loose<;>simp[e,sY,ofO]
 . have e3:¬ ((PG.tk st0 row).2:Int)=(row.length:Int):=by omega
   simp[e,e3,sY,ofO]
noncomputable def fgB(big:Bool)(w:Int):Int:=if w<10 then 48+w else(if big then 55 else 87)+w
noncomputable def B9(n:Int)(big:Bool):Sg:=.hx (fgB big (n/16/16/16%16)) (fgB big (n/16/16%16)) (fgB big (n/16%16)) (fgB big (n%16))
noncomputable def uF:List (Int×Int):=[(34,34),(92,92),(47,47),(8,98),(12,102),(10,110),(13,114),(9,116)]
noncomputable def Hk(n m:Int)(b1 b2:Bool):Sg:=.pr (fgB b1 (n/16/16/16%16)) (fgB b1 (n/16/16%16)) (fgB b1 (n/16%16)) (fgB b1 (n%16)) (fgB b2 (m/16/16/16%16)) (fgB b2 (m/16/16%16)) (fgB b2 (m/16%16)) (fgB b2 (m%16))
noncomputable def qB(p n:Int):Sg:=
 if n%5=0 /\ (uF.lookup p).isSome=true then .sh ((uF.lookup p).getD 0) p
 else if 1<n%5 /\ 32<=p /\ p≠34 /\ p≠92 then .pl p
 else if p<65536 then B9 p (decide (n%5=1))
 else Hk (55296+(p - 65536)/1024) (56320+(p - 65536)%1024) (decide (n%5=1)) (decide (n%5=0))
theorem sd(big:Bool){w:Int}(h:0<=w /\ w<16):ee (fgB big w)=some w:=by
 unfold fgB ee
 by_cases h1:w<10
 . rw[if_pos h1,if_pos (by omega)];congr 1;omega
 . cases big
   . simp only[h1,if_false,Bool.false_eq_true];rw[if_neg (by omega),if_neg (by omega),if_pos (by omega)];congr 1;omega
   . simp only[h1,if_false,if_true];rw[if_neg (by omega),if_pos (by omega)];congr 1;omega
theorem xC{p:Int}(h:(uF.lookup p).isSome=true):((uF.lookup p).getD 0,p)∈shP:=by
 unfold uF at h ⊢
 simp only[List.lookup]at h ⊢
 repeat' split
 all_goals first
  |(rename_i e;have e':=eq_of_beq e;subst e';decide)
  |(simp_all;done)
theorem si(n:Int)(big:Bool)(h:0<=n /\ n<65536):(ee (fgB big (n/16/16/16%16))=some (n/16/16/16%16) /\ ee (fgB big (n/16/16%16))=some (n/16/16%16) /\ ee (fgB big (n/16%16))=some (n/16%16) /\ ee (fgB big (n%16))=some (n%16)) /\
  cod (fgB big (n/16/16/16%16)) (fgB big (n/16/16%16)) (fgB big (n/16%16)) (fgB big (n%16))=n:=by
 have e1:=sd big (w:=n/16/16/16%16) (by omega);have e2:=sd big (w:=n/16/16%16) (by omega);have e3:=sd big (w:=n/16%16) (by omega);have e4:=sd big (w:=n%16) (by omega)
 refine⟨⟨e1,e2,e3,e4⟩,?_⟩
 simp only[cod,m7 e1,m7 e2,m7 e3,m7 e4];omega
theorem rY(p n:Int)(h:mK p=true):Sok (qB p n) /\ L9 (qB p n)=p:=by
 have hr:=rA h
 have hs:p<55296 \/ 57343<p:=by
  unfold mK at h;simp only[Bool.or_eq_true,Bool.and_eq_true,decide_eq_true_eq]at h;omega
 unfold qB;split
 . rename_i c;exact⟨xC c.2,rfl⟩
 . split
   . rename_i c;exact⟨⟨h,c.2.1,c.2.2.1,c.2.2.2⟩,rfl⟩
   . split
     . rename_i c;obtain⟨⟨e1,e2,e3,e4⟩,ec⟩:=si p (decide (n%5=1)) (by omega)
       exact⟨⟨by rw[e1];rfl,by rw[e2];rfl,by rw[e3];rfl,by rw[e4];rfl,by rw[ec];omega⟩,ec⟩
     . rename_i c;obtain⟨⟨e1,e2,e3,e4⟩,ec⟩:=si (55296+(p - 65536)/1024) (decide (n%5=1)) (by omega);obtain⟨⟨f1,f2,f3,f4⟩,fc⟩:=si (56320+(p - 65536)%1024) (decide (n%5=0)) (by omega)
       have g1:(55296+(p - 65536)/1024)/16/16/16%16=13:=by omega
       have g2:(56320+(p - 65536)%1024)/16/16/16%16=13:=by omega
       refine⟨⟨⟨by rw[e1,g1],by rw[m7 e2];omega,by rw[m7 e2];omega,by rw[e2];rfl,by rw[e3];rfl,by rw[e4];rfl⟩,by rw[f1,g2],by rw[m7 f2];omega,by rw[f2];rfl,by rw[f3];rfl,by rw[f4];rfl⟩,?_⟩
       show 65536+1024*(cod _ _ _ _ - 55296)+cod _ _ _ _ - 56320=p;rw[ec,fc];omega
noncomputable def zM(n:Int)(big:Bool):List Int:=[92,117,fgB big (n/16/16/16%16),fgB big (n/16/16%16),fgB big (n/16%16),fgB big (n%16)]
theorem rO(n:Int)(big:Bool)(found:List Int)(k:Int)(x:Option Sl)(hl:found.length<=10):lZ [some (.sh (.int n)),some (.sh (.bl big)),some (.ow (found.map .int)),some (.sh (.int k)),x]=.nx [some (.sh (.int (n/16))),some (.sh (.bl big)),some (.ow ((fgB big (n%16) ::found).map .int)),some (.sh (.int k)),some (.sh (.int (n%16)))]:=by
 have hlim:1+found.length<=lim:=df (by omega)
 unfold fgB
 by_cases h:n%16<10
 . simp -implicitDefEqProofs [lZ,h,hlim]
 . cases big<;>simp -implicitDefEqProofs [lZ,h,hlim]
theorem jB(n:Int)(big:Bool):hJ [.int n,.bl big]=.ok (.fr ((zM n big).map .int)):=by
 have h1:=rO n big [] 0 none (by simp);have h2:=rO (n/16) big [fgB big (n%16)] 1 (some (.sh (.int (n%16)))) (by simp);have h3:=rO (n/16/16) big [fgB big (n/16%16),fgB big (n%16)] 2 (some (.sh (.int (n/16%16)))) (by simp);have h4:=rO (n/16/16/16) big [fgB big (n/16/16%16),fgB big (n/16%16),fgB big (n%16)] 3 (some (.sh (.int (n/16/16%16)))) (by simp);simp only[List.map_cons,List.map_nil]at h1 h2 h3 h4
 have hr:dE 4=[.int 0,.int 1,.int 2,.int 3]:=rfl
 have hb:(-4611686018427387904:Int)<=4 /\ (4:Int)<4611686018427387904:=by omega
 simp -implicitDefEqProofs [ug,um,wY,hJ,hr,h1,h2,h3,h4,zM]
theorem q9(n:Int)(big:Bool)(h:0<=n /\ n<65536):oK (B9 n big)=zM n big:=by
 obtain⟨⟨e1,e2,e3,e4⟩,_⟩:=si n big h;obtain⟨g1,g2,g3,g4⟩:=n5 (by rw[e1];rfl) (by rw[e2];rfl) (by rw[e3];rfl) (by rw[e4];rfl);show bD 92++(bD 117++(bD _++(bD _++(bD _++(bD _++[])))))=_;rw[g1,g2,g3,g4];rfl
theorem C4(n m:Int)(b1 b2:Bool)(h:0<=n /\ n<65536)(h':0<=m /\ m<65536):oK (Hk n m b1 b2)=zM n b1++zM m b2:=by
 rw[<- q9 n b1 h,<- q9 m b2 h']
 show([92,117,_,_,_,_,92,117,_,_,_,_]:List Int).flatMap bD=([92,117,_,_,_,_]:List Int).flatMap bD++([92,117,_,_,_,_]:List Int).flatMap bD
 rw[<- List.flatMap_append];rfl
theorem nC(p n:Int)(h:mK p=true):iL [.int p,.int n]=.ok (.fr ((oK (qB p n)).map .int)):=by
 have hr:=rA h;have h8:=lV p h
 have hl:(uF.map fun p=>(p.1,PV.int p.2)).lookup p=(uF.lookup p).map .int:=by
  unfold uF;simp only[List.map,List.lookup]
  repeat' split
  all_goals rfl
 obtain⟨kv,hkv⟩:∃ kv,kv=uF.map fun p=>(p.1,PV.int p.2):=⟨_,rfl⟩
 rw[<- hkv]at hl
 have hset:j6 2 (KS [(34,34),(92,92),(47,47),(8,98),(12,102),(10,110),(13,114),(9,116)]) [some (.sh (.int p)),some (.sh (.int n)),none,none,none]=.nx [some (.sh (.int p)),some (.sh (.int n)),some (.tr false (.di kv)),none,none]:=by rw[hkv];rfl
 have hi:∀ a b c d,subAt 2 aI [a,b,some (.tr false (.di kv)),c,d]=some (.di kv):=fun a b c d=>by simp[subAt,fU,slT,aI]
 clear hkv
 have e1:fin (i4 [some (.sh (.int p)),some (.sh (.int n)),some (.tr false (.di kv)),none,none])=.ok (.fr ((oK (qB p n)).map .int)):=by
  unfold qB
  by_cases c1:n%5=0 /\ (uF.lookup p).isSome=true
  . rw[if_pos c1];obtain⟨c,hc⟩:=Option.isSome_iff_exists.mp c1.2;have hm:=xC c1.2
    rw[hc]at hm hl ⊢
    have hby:oK (.sh c p)=[92,c]:=by
     simp only[Option.getD_some,shP,List.mem_cons,Prod.mk.injEq,List.not_mem_nil,or_false]at hm
     rcases hm with h|h|h|h|h|h|h|h<;>(obtain⟨rfl,rfl⟩:=h;rfl)
    simp only[Option.map_some]at hl;simp -implicitDefEqProofs [i4,nJ,c1.1,zV,B1,hi,hl,hby]
  . rw[if_neg c1]
    have hg1:∀ x,da (az (mOp gEq (ao 3) (mC (.int 0)))) (az (zV false (ao 0) 2 aI)) [some (.sh (.int p)),some (.sh (.int n)),some (.tr false (.di kv)),some (.sh (.int (n%5))),x]=.ok false:=fun x=>by
     by_cases z:n%5=0
     . have:uF.lookup p = none:=by
        cases e:uF.lookup p with
        |none=>rfl
        |some c=>exact absurd ⟨z,by rw[e];rfl⟩ c1
       rw[this]at hl;simp only[Option.map_none]at hl;simp -implicitDefEqProofs [z,zV,hi,hl]
     . simp -implicitDefEqProofs [z]
    have e2:fin (fh [some (.sh (.int p)),some (.sh (.int n)),some (.tr false (.di kv)),some (.sh (.int (n % 5))),none]) = .ok (.fr ((oK (if 1 < n % 5 /\ 32 <= p /\ p ≠ 34 /\ p ≠ 92 then .pl p
          else if p<65536 then B9 p (decide (n%5=1))else Hk (55296+(p - 65536)/1024) (56320+(p - 65536)%1024) (decide (n%5=1)) (decide (n%5=0)))).map .int)):=by
     have e3:fin (kW [some (.sh (.int p)),some (.sh (.int n)),some (.tr false (.di kv)),some (.sh (.int (n%5))),none])=.ok (.fr ((oK (if p<65536 then B9 p (decide (n%5=1))else Hk (55296+(p - 65536)/1024) (56320+(p - 65536)%1024) (decide (n%5=1)) (decide (n%5=0)))).map .int)):=by
      by_cases c3:p<65536
      . rw[if_pos c3,q9 p _ (by omega)];simp -implicitDefEqProofs [kW,c3,jB]
      . rw[if_neg c3,C4 _ _ _ _ (by omega) (by omega)]
        have hlim:(zM (55296+(p - 65536)/1024) (decide (n%5=1))).length+(zM (56320+(p - 65536)%1024) (decide (n%5=0))).length<=lim:=by simp[zM]
        simp -implicitDefEqProofs [kW,c3,sR,sO,jB,hlim]
     by_cases d1:1<n%5
     . by_cases d2:32<=p
       . by_cases d3:p=34
         . rw[if_neg (fun z=>z.2.2.1 d3)];simp -implicitDefEqProofs [fh,d1,d2,d3]
           simpa [d3]using e3
         . by_cases d4:p=92
           . rw[if_neg (fun z=>z.2.2.2 d4)];simp -implicitDefEqProofs [fh,d1,d2,d3,d4]
             simpa [d4]using e3
           . rw[if_pos ⟨d1,d2,d3,d4⟩]
             have hb:oK (.pl p)=bD p:=by show bD p++[]=_;simp
             rw[hb];simp -implicitDefEqProofs [fh,d1,d2,d3,d4,h8]
       . rw[if_neg (fun z=>d2 z.2.1)];simp -implicitDefEqProofs [fh,d1,d2];exact e3
     . rw[if_neg (fun z=>d1 z.1)];simp -implicitDefEqProofs [fh,d1];exact e3
    have hs:i4 [some (.sh (.int p)),some (.sh (.int n)),some (.tr false (.di kv)),none,none]=fh [some (.sh (.int p)),some (.sh (.int n)),some (.tr false (.di kv)),some (.sh (.int (n%5))),none]:=by
     have h3:bf 3 (mOp cw (ao 1) (mC (.int 5))) [some (.sh (.int p)),some (.sh (.int n)),some (.tr false (.di kv)),none,none]=.nx [some (.sh (.int p)),some (.sh (.int n)),some (.tr false (.di kv)),some (.sh (.int (n%5))),none]:=by simp -implicitDefEqProofs
     simp only[i4,pI,h3,jI,nJ,Bp,hg1,lq,Bool.false_eq_true,if_false,Hj]
    rw[hs];exact e2
 simp -implicitDefEqProofs only[iL,vi,Cj,sC,List.map_cons,List.map_nil,List.length_cons,List.length_nil,List.replicate,List.cons_append,List.nil_append,pI,hset,jI]
 exact e1
noncomputable def lts:List Int->Int->Nat->List Sg
 |[],_,_=>[]
 |p ::l,n,k=>qB p (n/(1+(k:Int)%7)+k) ::lts l n (k+1)
theorem Mv(l:List Int):∀ n k,l.all mK=true->(lts l n k).map L9=l:=by
 induction l with
 |nil=>intro n k _;rfl
 | cons p l ih=>
   intro n k h;simp only[List.all_cons,Bool.and_eq_true]at h;simp only[lts,List.map_cons,ih n (k+1) h.2,(rY p _ h.1).2]
theorem Ft(l:List Int):∀ n k,l.all mK=true->∀ s∈lts l n k,Sok s:=by
 induction l with
 |nil=>intro n k _ s hs;cases hs
 | cons p l ih=>
   intro n k h s hs;simp only[List.all_cons,Bool.and_eq_true]at h
   rcases List.mem_cons.mp hs with z|z
   . subst z;exact(rY p _ h.1).1
   . exact ih n (k+1) h.2 s z
theorem Er(s:Sg)(h:Sok s):(oK s).length<=12:=by
 cases s with
 | pl p=>
   show(bD p++[]).length<=12
   rw[List.append_nil];unfold bD
   repeat' split
   all_goals simp
 | sh c p=>
   simp only[Sok,shP,List.mem_cons,Prod.mk.injEq,List.not_mem_nil,or_false]at h
   rcases h with h|h|h|h|h|h|h|h<;>(obtain⟨rfl,rfl⟩:=h;decide)
 | hx a b c d=>
   obtain⟨ha,hb,hc,hd,_⟩:=h;obtain⟨e1,e2,e3,e4⟩:=n5 ha hb hc hd
   show(bD 92++(bD 117++(bD a++(bD b++(bD c++(bD d++[])))))).length<=12
   rw[e1,e2,e3,e4,show bD 92=[92] from rfl,show bD 117=[117] from rfl];simp
 | pr a b c d e f g h'=>
   obtain⟨⟨f1,_,_,hb,hcc,hd⟩,f5,_,hf,hg,hh⟩:=h;obtain⟨e1,e2,e3,e4⟩:=n5 (by rw[f1];rfl) hb hcc hd;obtain⟨e5,e6,e7,e8⟩:=n5 (by rw[f5];rfl) hf hg hh
   show(bD 92++(bD 117++(bD a++(bD b++(bD c++(bD d++(bD 92++(bD 117++(bD e++(bD f++(bD g++(bD h'++[])))))))))))).length<=12
   rw[e1,e2,e3,e4,e5,e6,e7,e8,show bD 92=[92] from rfl,show bD 117=[117] from rfl];simp
theorem DG(l:List Int)(n:Int)(a:Option Sl):∀(k:Nat) (found:List Int) (x:Option Sl),l.all mK=true->found.length+12*l.length<=100000->∃ x',gR 4 kP (l.map .int) [a,some (.sh (.int n)),some (.ow (found.map .int)),some (.sh (.int (k:Int))),x]=.nx [a,some (.sh (.int n)),some (.ow ((found++PG.inner (lts l n k)).map .int)),some (.sh (.int ((k+l.length:Nat):Int))),x']:=by
 induction l with
 |nil=>intro k found x _ _;exact⟨x,by simp[lts,PG.inner]⟩
 | cons p l ih=>
   intro k found x hp hl;simp only[List.all_cons,Bool.and_eq_true]at hp;simp only[List.length_cons]at hl;have hs:=nC p (n/(1+(k:Int)%7)+k) hp.1;have h12:=Er _ (rY p (n/(1+(k:Int)%7)+k) hp.1).1
   have hlim:found.length+(oK (qB p (n/(1+(k:Int)%7)+k))).length<=lim:=df (by omega)
   obtain⟨x',h⟩:=ih (k+1) (found++oK (qB p (n/(1+(k:Int)%7)+k))) (some (.sh (.int p))) hp.2 (by simp;omega)
   refine⟨x',?_⟩
   have hd:(0:Int)<1+(k:Int)%7:=by omega
   have hd2:1+(k:Int)%7<1073741824:=by omega
   have ht:kP [a,some (.sh (.int n)),some (.ow (found.map .int)),some (.sh (.int (k:Int))),some (.sh (.int p))]=.nx [a,some (.sh (.int n)),some (.ow ((found++oK (qB p (n/(1+(k:Int)%7)+k))).map .int)),some (.sh (.int ((k+1:Nat):Int))),some (.sh (.int p))]:=by
    simp -implicitDefEqProofs [kP,hd,hd2,hs,hlim]
   rw[List.map_cons,jM];simp only[List.set_cons_succ,List.set_cons_zero,ht,nG,h]
   have e:k+1+l.length=k+(l.length+1):=by omega
   simp[lts,PG.inner,e]
theorem Cp(l:List Int):∀ n k,(PG.inner (lts l n k)).length<=12*l.length \/ l.all mK=false:=by
 induction l with
 |nil=>intro n k;left;simp[lts,PG.inner]
 | cons p l ih=>
   intro n k
   by_cases h1:mK p=true
   . rcases ih n (k+1)with h|h
     . left;have h12:=Er _ (rY p (n/(1+(k:Int)%7)+k) h1).1
       show(oK _++PG.inner (lts l n (k+1))).length<=_
       rw[List.length_append,List.length_cons];omega
     . right;simp[h]
   . right;simp[h1]
theorem jF(l:List Int)(n:Int)(h:l.all mK=true)(hl:l.length<=1000):fO [.lst (l.map .int),.int n]=.ok (.fr ((PG.txt (lts l n 0)).map .int)):=by
 obtain⟨x',h1⟩:=DG l n (some (.sh (.lst (l.map .int)))) 0 [34] none h (by simp;omega)
 have hlen:(PG.inner (lts l n 0)).length<=12*l.length:=by
  rcases Cp l n 0 with z|z
  . exact z
  . rw[h]at z;cases z
 have hlim:(PG.inner (lts l n 0)).length+1+1<=lim:=df (by omega)
 simp only[List.map_cons,List.map_nil,Int.ofNat_zero,Int.cast_ofNat_Int]at h1
 simp -implicitDefEqProofs only[fO,wq,Cj,sC,List.map_cons,List.map_nil,List.length_cons,List.length_nil,List.replicate,List.cons_append,List.nil_append,pI]
 simp -implicitDefEqProofs [sM,sL,h1,sP,hlim,PG.txt]
noncomputable def low:Nat->Int->Int×Nat
 |0,n=>(n,0)
 |k+1,n=>if n%10=0 then((low k (n/10)).1,(low k (n/10)).2+1)else(n,0)
noncomputable def sv(s ds:List Int):Int:=if s=[45]then -cv ds else cv ds
noncomputable def exV:Option (Int×List Int×List Int)->Int
 |none=>0
 |some (_,s,ds)=>sv s ds
noncomputable def mwV(m:Nm):Int:=if m.neg then -cv (m.ip++m.fr)else cv (m.ip++m.fr)
noncomputable def dN(m:Nat):List Nat:=(Nat.toDigits 10 m).map Char.toNat
theorem Gj(m:Nat):(Str.ofString (toString ((m:Nat):Int))).cps.toList=dN m:=by
 rw[Str.ofString_eq_toList]
 have:(toString ((m:Nat):Int)).toList=Nat.toDigits 10 m:=by
  show(Nat.repr m).toList=_
  simp[Nat.repr]
 rw[this];rfl
theorem Eu(m:Nat):x5 (Str.ofString (toString ((m:Nat):Int)))=(dN m).map fun c=>PV.str ⟨#[c]⟩:=by
 unfold x5;rw[Gj]
theorem D7:∀ d:Nat,d<10->(Nat.digitChar d).toNat=48+d:=by decide
theorem uX(m:Nat):(dN m).map (fun c:Nat=>(c:Int))=cT m:=by
 induction m using Nat.strongRecOn with
 | _ m ih=>
   rw[cT]
   by_cases h:m<10
   . rw[if_pos h];unfold dN;rw[Nat.toDigits_of_lt_base h];simp[D7 m h]
   . rw[if_neg h,<- ih (m/10) (by omega)];unfold dN;rw[Nat.toDigits_of_base_le (by decide) (by omega)];simp[D7 (m%10) (by omega)]
theorem Kb(m:Nat):∀ c∈dN m,48<=c /\ c<=57:=by
 intro c hc
 have h1:(c:Int)∈cT m:=by rw[<- uX];exact List.mem_map.mpr ⟨c,hc,rfl⟩
 have:=ze m _ h1;unfold isF at this;omega
theorem Lm(m:Nat):(dN m).length=(cT m).length:=by rw[<- uX];simp
theorem Gp(m:Nat)(h:m<100000):((m:Nat):Int).natAbs.log2<1920:=by
 have e:((m:Nat):Int).natAbs=m:=by omega
 rw[e]
 by_cases h0:m=0
 . subst h0;decide
 . have:=(Nat.log2_lt h0 (k:=17)).mpr (by omega);omega
theorem Ac{me:ag->OE}{f:Nat->PV}(m:Nat)(h:m<100000)(hme:∀ c∈dN m,me ([]++[some (.sh (.str ⟨#[c]⟩))])=.ok (.sh (f c)))(ma:ag->OE)(ρ:ag)(ha:ma ρ=.ok (.sh (.int (m:Int)))):
  pV (mUn pN ma) [] me ρ=.ok (.fr ((dN m).map f)):=by
 have h2:(dN m).length<=lim:=by
  rw[Lm];have:=o2 4 m (by omega);exact df (by omega)
 have e1:(mUn pN ma) ρ=.ok (.sh (.str (Str.ofString (toString (m:Int))))):=by
  have:pN (.int m)=some (.sh (.str (Str.ofString (toString (m:Int))))):=if_pos (Gp m h)
  simp[ha,this]
 have hel:dg me [] ((dN m).map fun c=>PV.str ⟨#[c]⟩)=.ok ((dN m).map f):=jN _ hme
 rw[Gh,e1];simp only[OE.bind,RV.pv,Eu,cX,List.map_nil,hel];simp[noX,h2]
theorem LQ(c:Nat)(h:48<=c /\ c<=57):gN ([]++[some (.sh (.str ⟨#[c]⟩))])=.ok (.sh (.int ((c:Int) - 48))):=by
 have:BR (.str ⟨#[c]⟩)=some (.sh (.int ((c:Int) - 48))):=if_pos h
 simp[gN,this]
theorem KN(c:Nat):fD ([]++[some (.sh (.str ⟨#[c]⟩))])=.ok (.sh (.int (c:Int))):=by
 have:Ge (.str ⟨#[c]⟩)=some (.sh (.int ((⟨#[c]⟩:Str).cps.getD 0 0:Nat))):=rfl
 simp[fD,this]
noncomputable def ws(ds:List Int):List Int:=ds.map (· - 48)
theorem wl1(l:List Int):∀(w:Int) (a b c d x e f g:Option Sl),∃ x',gR 5 fE (l.map .int) [a,b,c,d,some (.sh (.int w)),x,e,f,g]=.nx [a,b,c,d,some (.sh (.int (l.foldl (fun n d=>n*10+d) w))),x',e,f,g]:=by
 induction l with
 |nil=>intro w a b c d x e f g;exact⟨x,rfl⟩
 | cons y l ih=>
   intro w a b c d x e f g;obtain⟨x',h⟩:=ih (w*10+y) a b c d (some (.sh (.int y))) e f g
   refine⟨x',?_⟩
   have ht:fE [a,b,c,d,some (.sh (.int w)),some (.sh (.int y)),e,f,g]=.nx [a,b,c,d,some (.sh (.int (w*10+y))),some (.sh (.int y)),e,f,g]:=by simp -implicitDefEqProofs [fE]
   rw[List.map_cons,jM];simp only[List.set_cons_succ,List.set_cons_zero,ht,nG,h,List.foldl_cons]
theorem wl2(l:List Int):∀(row:List Int) (w p:Int) (a b c x f g:Option Sl),row.length+l.length<=1000->∃ x',gR 5 gM (l.map .int) [a,b,c,some (.ow (row.map .int)),some (.sh (.int w)),x,some (.sh (.int p)),f,g]=.nx [a,b,c,some (.ow ((row++l.map (48+·)).map .int)),some (.sh (.int (l.foldl (fun n d=>n*10+d) w))),x',some (.sh (.int (p - l.length))),f,g]:=by
 induction l with
 |nil=>intro row w p a b c x f g _;exact⟨x,by simp⟩
 | cons y l ih=>
   intro row w p a b c x f g hl;simp only[List.length_cons]at hl;obtain⟨x',h⟩:=ih (row++[48+y]) (w*10+y) (p - 1) a b c (some (.sh (.int y))) f g (by simp;omega)
   refine⟨x',?_⟩
   have hlim:row.length<lim:=tN (by omega)
   have ht:gM [a,b,c,some (.ow (row.map .int)),some (.sh (.int w)),some (.sh (.int y)),some (.sh (.int p)),f,g]=.nx [a,b,c,some (.ow ((row++[48+y]).map .int)),some (.sh (.int (w*10+y))),some (.sh (.int y)),some (.sh (.int (p - 1))),f,g]:=by simp -implicitDefEqProofs [gM,hlim]
   rw[List.map_cons,jM];simp only[List.set_cons_succ,List.set_cons_zero,ht,nG,h,List.foldl_cons]
   have e1:p - 1 - (l.length:Int)=p - ((l.length:Int)+1):=by omega
   simp[e1]
theorem BH(ds:List Int):∀ w,(ws ds).foldl (fun n d=>n*10+d) w=ds.foldl (fun n d=>10*n+d - 48) w:=by
 induction ds with
 |nil=>intro w;rfl
 | cons d ds ih=>
   intro w
   simp only[ws,List.map_cons,List.foldl_cons]at ih ⊢
   have:w*10+(d - 48)=10*w+d - 48:=by omega
   rw[this];exact ih _
theorem Lh(ds:List Int):(ws ds).map (48+·)=ds:=by
 unfold ws;rw[List.map_map]
 conv=>rhs;rw[<- List.map_id ds]
 refine List.map_congr_left fun x _=>?_
 show 48+(x - 48)=x;omega
theorem DU(xs ys:List Int):cv (xs++ys)=ys.foldl (fun n d=>10*n+d - 48) (cv xs):=by
 unfold cv;rw[List.foldl_append]
noncomputable def bV(n:Int):List Int:=if n/17%3=1 then([48+n/19%10,48+n/23%4,48]:List Int).take (1+n/29%3).toNat else[]
noncomputable def gb(n:Int):Option (Int×List Int×List Int):=if n/31%3=1 then some (if n/41%2=0 then 101 else 69,if n/43%3=1 then[45]else if n/43%3=2 then[43]else[],(if n/47%4=1 then[48]else[])++cT (n/37%30).toNat)else none
noncomputable def eH(n:Int):Nm:=⟨decide (n%3=0),cT (n/3%100000).toNat,bV n,gb n⟩
theorem Au(n:Int):Nok (eH n) where
 ip:=by
  by_cases h:(n/3%100000).toNat=0
  . left;show cT _=_;rw[h,Dn]
  . right;exact CM _ (by omega)
 fr:=fun b hb=>by
  have hb':b∈bV n:=hb
  unfold bV at hb';split at hb'
  . have:=List.mem_of_mem_take hb';simp at this;unfold isF;omega
  . cases hb'
 ex:=fun e s ds h=>by
  have h':gb n=some (e,s,ds):=h
  unfold gb at h';split at h'
  . injection h' with h'
    injection h' with h1 h'
    injection h' with h2 h3
    refine⟨?_,?_,?_,?_⟩
    . rw[<- h1];split<;>simp
    . rw[<- h2];split
      . simp
      . split<;>simp
    . rw[<- h3];intro z;exact GP _ (List.append_eq_nil_iff.mp z).2
    . rw[<- h3];intro b hb
      rcases List.mem_append.mp hb with z|z
      . split at z
        . simp at z;subst z;decide
        . cases z
      . exact ze _ b z
  . cases h'
noncomputable abbrev nE(n:Int)(a b c d e f g:Option Sl):ag:=[some (.sh (.int n)),some (.sh (.bl (decide (n%3=0)))),a,b,c,d,e,f,g]
theorem yY(k:Nat):∀(n p:Int) (F:Nat),n≠0->n.natAbs<10 ^ k->k<F->fV iz jU F [some (.sh (.int n)),some (.sh (.int p))]=.nx [some (.sh (.int (low k n).1)),some (.sh (.int (p+(low k n).2)))]:=by
 induction k with
 |zero=>intro n p F h0 h _;simp at h;omega
 | succ k ih=>
   intro n p F h0 h hF
   obtain⟨F,rfl⟩:∃ G,F=G+1:=⟨F - 1,by omega⟩
   unfold fV low
   by_cases hm:n%10=0
   . rw[Nat.pow_succ]at h
     have h1:n/10≠0:=by omega
     have h2:(n/10).natAbs<10 ^ k:=by generalize 10 ^ k=z at h;omega
     have:=ih (n/10) (p+1) F h1 h2 (by omega)
     have hc:iz [some (.sh (.int n)),some (.sh (.int p))]=.ok true:=by simp[iz,hm]
     have hb:jU [some (.sh (.int n)),some (.sh (.int p))]=.nx [some (.sh (.int (n/10))),some (.sh (.int (p+1)))]:=by simp[jU]
     simp[hc,hb,hm,this,Int.add_assoc,Int.add_comm 1]
   . simp[iz,hm]
noncomputable def pairOf(k:Nat)(n p:Int):PV:=if n=0 then .tup [.int 0,.int 0]else .tup [.int (low k n).1,.int (p+(low k n).2)]
theorem Ea(k:Nat)(n p:Int)(h:n.natAbs<10 ^ k)(hk:k<=90000):fi [.int n,.int p]=.ok (.sh (pairOf k n p)):=by
 unfold pairOf
 by_cases h0:n=0
 . rw[if_pos h0,h0];simp -implicitDefEqProofs [fi,pK]
 . rw[if_neg h0];have:=yY k n p fuel h0 h (by unfold fuel;omega);simp -implicitDefEqProofs [fi,pK,qO,qM,h0,this]
theorem DR(ds:List Int)(h:∀ b∈ds,isF b):0<=cv ds /\ cv ds<10 ^ ds.length:=by
 have key:∀(ds:List Int) (w:Int) (k:Nat),(∀ b∈ds,isF b)->0<=w /\ w<10 ^ k->0<=ds.foldl (fun n d=>10*n+d - 48) w /\ ds.foldl (fun n d=>10*n+d - 48) w<10 ^ (k+ds.length):=by
  intro ds
  induction ds with
  |nil=>intro w k _ hw;simpa using hw
  | cons d ds ih=>
    intro w k hd hw;have h1:=hd d List.mem_cons_self;unfold isF at h1
    have h2:(10:Int) ^ (k+1)=10 ^ k*10:=Int.pow_succ 10 k
    have:=ih (10*w+d - 48) (k+1) (fun b hb=>hd b (List.mem_cons_of_mem _ hb)) ⟨by omega,by rw[h2];omega⟩;rw[List.foldl_cons,List.length_cons];rw[show k+1+ds.length=k+(ds.length+1) by omega]at this;exact this
 have:=key ds 0 0 h (by simp);rw[Nat.zero_add]at this;exact this
theorem ED(m:Nm)(h:Nok m)(k:Nat)(hk:(m.ip++m.fr).length<=k):(mwV m).natAbs<10 ^ k:=by
 have hip:∀ b∈m.ip++m.fr,isF b:=by
  intro b hb
  rcases List.mem_append.mp hb with z|z
  . rcases h.ip with e|⟨d,r,e,h1,h2,h3⟩
    . rw[e]at z;simp at z;subst z;decide
    . rw[e]at z
      rcases List.mem_cons.mp z with y|y
      . unfold isF;omega
      . exact h3 b y
  . exact h.fr b z
 obtain⟨b1,b2⟩:=DR _ hip
 have b3:(10:Int) ^ (m.ip++m.fr).length<=10 ^ k:=by
  have:=Nat.pow_le_pow_right (n:=10) (by decide) hk
  have e1:((10 ^ (m.ip++m.fr).length:Nat):Int)=(10:Int) ^ (m.ip++m.fr).length:=by norm_cast
  have e2:((10 ^ k:Nat):Int)=(10:Int) ^ k:=by norm_cast
  omega
 have e2:((10 ^ k:Nat):Int)=(10:Int) ^ k:=by norm_cast
 unfold mwV
 split<;>omega
theorem kT(n:Int)(hn:0<=n):fW [.int n]=.ok (.sh (.tup [.lst ((PG.nb (eH n)).map .int),pairOf 20 (mwV (eH n)) (exV (eH n).ex - (eH n).fr.length)])):=by
 obtain⟨K,hK⟩:∃ K:Nat,K=(n/3%100000).toNat:=⟨_,rfl⟩
 have hK1:n/3%100000=(K:Int):=by omega
 have hK2:K<100000:=by omega
 have hdl:=o2 4 K (by omega)
 obtain⟨sg,hsg⟩:∃ sg:List Int,sg=if n%3=0 then[45]else[]:=⟨_,rfl⟩
 have hsl:sg.length<=1:=by rw[hsg];split<;>simp
 have ok:=Au n
 have hfl:(bV n).length<=3:=by unfold bV;split<;>simp;omega
 have hb20:=ED (eH n) ok 20 (by show(cT (n/3%100000).toNat++bV n).length<=20;rw[<- hK];simp;omega);have hpl:=Ea 20 (mwV (eH n)) (exV (eH n).ex - (eH n).fr.length) hb20 (by decide)
 have c1:bf 2 (pV (mUn pN (mOp cw (mOp dA (ao 0) (mC (.int 3))) (mC (.int 100000)))) [] gN) (nE n none none none none none none none)=.nx (nE n (some (.ow ((ws (cT K)).map .int))) none none none none none none):=by
  have:=Ac (me:=gN) (f:=fun c=>.int ((c:Int) - 48)) K hK2 (fun c hc=>LQ c (Kb K c hc)) (mOp cw (mOp dA (ao 0) (mC (.int 3))) (mC (.int 100000))) (nE n none none none none none none none) (by simp -implicitDefEqProofs [hK1]);rw[Et,this]
  have e:(dN K).map (fun c:Nat=>PV.int ((c:Int) - 48))=(ws (cT K)).map .int:=by
   rw[<- uX];simp[ws,List.map_map,Function.comp_def]
  rw[e];rfl
 have c2:bf 3 (gk (dM (ao 1)) (bT (ak (mC (.int 45)) aJ)) (bT aJ)) (nE n (some (.ow ((ws (cT K)).map .int))) none none none none none none)=.nx (nE n (some (.ow ((ws (cT K)).map .int))) (some (.ow (sg.map .int))) none none none none none):=by
  rw[hsg]
  by_cases h:n%3=0<;>simp -implicitDefEqProofs [h]
 have hel:dg ju [] ((ws (cT K)).map .int)=.ok ((cT K).map .int):=by
  have:(cT K).map PV.int=(ws (cT K)).map fun x=>.int (48+x):=by
   conv=>lhs;rw[<- Lh (cT K)]
   rw[List.map_map];rfl
  rw[this]
  exact jN _ fun x _=>by simp -implicitDefEqProofs [ju]
 have hdlim:(cT K).length<=lim:=df (by omega)
 have hslim:sg.length+(cT K).length<=lim:=df (by omega)
 have c3:bf 3 (mOp iQ (ao 3) (rb (ao 2) [] ju)) (nE n (some (.ow ((ws (cT K)).map .int))) (some (.ow (sg.map .int))) none none none none none)=.nx (nE n (some (.ow ((ws (cT K)).map .int))) (some (.ow ((sg++cT K).map .int))) none none none none none):=by
  simp -implicitDefEqProofs [cX,hel,hdlim,hslim]
 obtain⟨x1,w1⟩:=wl1 (ws (cT K)) 0 (some (.sh (.int n))) (some (.sh (.bl (decide (n%3=0))))) (some (.sh (.lst ((ws (cT K)).map .int)))) (some (.ow ((sg++cT K).map .int))) none none none none;rw[BH]at w1
 have w1':gR 5 fE ((ws (cT K)).map .int) (nE n (some (.sh (.lst ((ws (cT K)).map .int)))) (some (.ow ((sg++cT K).map .int))) (some (.sh (.int 0))) none none none none)=.nx (nE n (some (.sh (.lst ((ws (cT K)).map .int)))) (some (.ow ((sg++cT K).map .int))) (some (.sh (.int (cv (cT K))))) x1 none none none):=w1
 obtain⟨W,hW⟩:∃ W,W=ws (cT K):=⟨_,rfl⟩
 obtain⟨R1,hR1⟩:∃ R1,R1=sg++cT K:=⟨_,rfl⟩
 have hR1l:R1.length<=6:=by rw[hR1];simp;omega
 obtain⟨V1,hV1⟩:∃ V1,V1=cv (cT K):=⟨_,rfl⟩
 rw[<- hW,<- hR1,<- hV1]at w1';rw[<- hW]at c1 c2;rw[<- hW,<- hR1]at c3
 have c4:∃ x2,bb (az (mOp gEq (mOp cw (mOp dA (ao 0) (mC (.int 17))) (mC (.int 3))) (mC (.int 1)))) (aG (eR 3 (mC (.int 46))) (mw 5 (oX (bT (ak (mOp cw (mOp dA (ao 0) (mC (.int 19))) (mC (.int 10))) (ak (mOp cw (mOp dA (ao 0) (mC (.int 23))) (mC (.int 4))) (ak (mC (.int 0)) aJ)))) (mC .non) (kb (mOp eX (mC (.int 1)) (mOp cw (mOp dA (ao 0) (mC (.int 29))) (mC (.int 3)))))) gM)) aO
   (nE n (some (.sh (.lst (W.map .int)))) (some (.ow (R1.map .int))) (some (.sh (.int V1))) x1 (some (.sh (.int 0))) none none) =
   .nx (nE n (some (.sh (.lst (W.map .int)))) (some (.ow ((R1++frB (bV n)).map .int))) (some (.sh (.int ((bV n).foldl (fun n d=>10*n+d - 48) V1)))) x2 (some (.sh (.int (-((bV n).length:Int))))) none none):=by
  by_cases h17:n/17%3=1
  . obtain⟨L,hL⟩:∃ L:List Int,L=([n/19%10,n/23%4,0]:List Int).take (1+n/29%3).toNat:=⟨_,rfl⟩
    have hLf:bV n=L.map (48+·):=by
     unfold bV;rw[if_pos h17,hL,List.map_take];simp
    have hLl:L.length=(1+n/29%3).toNat:=by rw[hL];simp;omega
    have hcut:By [PV.int (n/19%10),.int (n/23%4),.int 0] none (some (1+n/29%3))=L.map .int:=by
     have e1:wB 3 3 (some (1+n/29%3))=(1+n/29%3).toNat:=by
      unfold wB;dsimp only;rw[if_neg (by omega)];omega
     show([PV.int (n/19%10),.int (n/23%4),.int 0].drop 0).take (wB 3 3 (some (1+n/29%3)) - 0)=_
     rw[e1,hL,List.map_take];rfl
    obtain⟨x2,w2⟩:=wl2 L (R1++[46]) V1 0 (some (.sh (.int n))) (some (.sh (.bl (decide (n%3=0))))) (some (.sh (.lst (W.map .int)))) x1 none none (by simp;omega)
    refine⟨x2,?_⟩
    have hne:bV n≠[]:=by
     rw[hLf];intro z;have:=congrArg List.length z;simp[hLl]at this;omega
    have hfold:L.foldl (fun n d=>n*10+d) V1=(bV n).foldl (fun n d=>10*n+d - 48) V1:=by
     have:=BH (bV n) V1;rw[<- this,hLf]
     congr 1
     unfold ws;rw[List.map_map]
     conv=>lhs;rw[<- List.map_id L]
     refine List.map_congr_left fun x _=>?_
     show x=48+x - 48;omega
    have hrow:R1++[46]++L.map (48+·)=R1++frB (bV n):=by
     unfold frB;rw[if_neg hne,hLf];simp
    rw[hfold,hrow]at w2
    have hlen:(0:Int) - (L.length:Int)=-((bV n).length:Int):=by rw[hLf];simp
    rw[hlen]at w2
    have hl1:R1.length<lim:=tN (by omega)
    have w2':=w2
    simp only[List.map_append,List.map_cons,List.map_nil]at w2';simp -implicitDefEqProofs [h17,hl1,hcut,w2']
  . refine⟨x1,?_⟩
    have hf:bV n=[]:=by unfold bV;rw[if_neg h17]
    rw[hf];simp -implicitDefEqProofs [h17,frB]
 obtain⟨x2,c4⟩:=c4
 obtain⟨R2,hR2⟩:∃ R2,R2=R1++frB (bV n):=⟨_,rfl⟩
 have hR2l:R2.length<=10:=by
  rw[hR2];unfold frB
  split<;>simp<;>omega
 have hV2:(bV n).foldl (fun n d=>10*n+d - 48) V1=cv (cT K++bV n):=by rw[DU,hV1]
 rw[hV2,<- hR2]at c4
 obtain⟨V2,hV2e⟩:∃ V2,V2=cv (cT K++bV n):=⟨_,rfl⟩
 rw[<- hV2e]at c4
 have c5:∃ y z,bb (az (mOp gEq (mOp cw (mOp dA (ao 0) (mC (.int 31))) (mC (.int 3))) (mC (.int 1)))) (aG (bf 7 (mOp cw (mOp dA (ao 0) (mC (.int 37))) (mC (.int 30)))) (aG (eR 3 (mOp nk (bT (ak (mC (.int 101)) (ak (mC (.int 69)) aJ))) (mOp cw (mOp dA (ao 0) (mC (.int 41))) (mC (.int 2))))) (aG (bf 8 (mOp gEq (mOp cw (mOp dA (ao 0) (mC (.int 43))) (mC (.int 3))) (mC (.int 1)))) (aG (bb (dM (ao 8)) (eR 3 (mC (.int 45))) (bb (az (mOp gEq (mOp cw (mOp dA (ao 0) (mC (.int 43))) (mC (.int 3))) (mC (.int 2)))) (eR 3 (mC (.int 43))) aO)) (aG (bb (az (mOp gEq (mOp cw (mOp dA (ao 0) (mC (.int 47))) (mC (.int 4))) (mC (.int 1)))) (eR 3 (mC (.int 48))) aO) (aG (bf 3 (mOp iQ (ao 3) (pV (mUn pN (ao 7)) [] fD))) (bf 6 (mOp eX (ao 6) (gk (dM (ao 8)) (mUn gn (ao 7)) (ao 7)))))))))) aO
   (nE n (some (.sh (.lst (W.map .int)))) (some (.ow (R2.map .int))) (some (.sh (.int V2))) x2 (some (.sh (.int (-((bV n).length:Int))))) none none) =
   .nx (nE n (some (.sh (.lst (W.map .int)))) (some (.ow ((R2++exB (gb n)).map .int))) (some (.sh (.int V2))) x2 (some (.sh (.int (exV (gb n) - (bV n).length)))) y z):=by
  by_cases h31:n/31%3=1
  . obtain⟨M,hM⟩:∃ M:Nat,M=(n/37%30).toNat:=⟨_,rfl⟩
    have hM1:n/37%30=(M:Int):=by omega
    refine⟨some (.sh (.int (M:Int))),some (.sh (.bl (decide (n/43%3=1)))),?_⟩
    obtain⟨eb,heb⟩:∃ eb:Int,eb=if n/41%2=0 then 101 else 69:=⟨_,rfl⟩
    obtain⟨sx,hsx⟩:∃ sx:List Int,sx=if n/43%3=1 then[45]else if n/43%3=2 then[43]else[]:=⟨_,rfl⟩
    obtain⟨zx,hzx⟩:∃ zx:List Int,zx=if n/47%4=1 then[48]else[]:=⟨_,rfl⟩
    have hex:gb n=some (eb,sx,zx++cT M):=by unfold gb;rw[if_pos h31,heb,hsx,hzx,hM]
    have hsxl:sx.length <= 1:=by rw [hsx]; split
                                 . simp
                                 . split<;>simp
    have hzxl:zx.length<=1:=by rw[hzx];split<;>simp
    have hml:=o2 4 M (by omega)
    have hat:atP [PV.int 101,.int 69] (n/41%2)=some (.int eb):=by
     have:n/41%2=0 \/ n/41%2=1:=by omega
     rw[heb]
     rcases this with h|h<;>rw[h]<;>rfl
    have hcvz:cv (zx++cT M)=(M:Int):=by
     have:cv (cT M)=M:=G3 M
     rw[hzx];split
     . rw[DU];exact this
     . exact this
    have hexv:exV (gb n)=if n/43%3=1 then -(M:Int)else(M:Int):=by
     rw[hex];show sv sx (zx++cT M)=_;unfold sv;rw[hcvz,hsx]
     by_cases h1:n/43%3=1
     . simp[h1]
     . by_cases h2:n/43%3=2<;>simp[h1,h2]
    have l1:R2.length<lim:=tN (by omega)
    have l2:R2.length+1<lim:=tN (by omega)
    obtain⟨R3,hR3⟩:∃ R3,R3=R2++[eb]:=⟨_,rfl⟩
    have g1:eR 3 (mOp nk (bT (ak (mC (.int 101)) (ak (mC (.int 69)) aJ))) (mOp cw (mOp dA (ao 0) (mC (.int 41))) (mC (.int 2)))) (nE n (some (.sh (.lst (W.map .int)))) (some (.ow (R2.map .int))) (some (.sh (.int V2))) x2 (some (.sh (.int (-((bV n).length:Int))))) (some (.sh (.int (M:Int)))) none)=.nx (nE n (some (.sh (.lst (W.map .int)))) (some (.ow (R3.map .int))) (some (.sh (.int V2))) x2 (some (.sh (.int (-((bV n).length:Int))))) (some (.sh (.int (M:Int)))) none):=by
     rw[hR3];simp -implicitDefEqProofs [hat,l1]
    have hR3l:R3.length<=11:=by rw[hR3];simp;omega
    have l3:R3.length<lim:=tN (by omega)
    obtain⟨R4,hR4⟩:∃ R4,R4=R3++sx:=⟨_,rfl⟩
    have g2:bb (dM (ao 8)) (eR 3 (mC (.int 45))) (bb (az (mOp gEq (mOp cw (mOp dA (ao 0) (mC (.int 43))) (mC (.int 3))) (mC (.int 2)))) (eR 3 (mC (.int 43))) aO) (nE n (some (.sh (.lst (W.map .int)))) (some (.ow (R3.map .int))) (some (.sh (.int V2))) x2 (some (.sh (.int (-((bV n).length:Int))))) (some (.sh (.int (M:Int)))) (some (.sh (.bl (decide (n/43%3=1))))))=.nx (nE n (some (.sh (.lst (W.map .int)))) (some (.ow (R4.map .int))) (some (.sh (.int V2))) x2 (some (.sh (.int (-((bV n).length:Int))))) (some (.sh (.int (M:Int)))) (some (.sh (.bl (decide (n/43%3=1)))))):=by
     rw[hR4,hsx]
     by_cases h1:n/43%3=1
     . simp -implicitDefEqProofs [h1,l3]
     . by_cases h2:n/43%3=2<;>simp -implicitDefEqProofs [h1,h2,l3]
    have hR4l:R4.length<=12:=by rw[hR4];simp;omega
    have l4:R4.length<lim:=tN (by omega)
    obtain⟨R5,hR5⟩:∃ R5,R5=R4++zx:=⟨_,rfl⟩
    have g3:bb (az (mOp gEq (mOp cw (mOp dA (ao 0) (mC (.int 47))) (mC (.int 4))) (mC (.int 1)))) (eR 3 (mC (.int 48))) aO (nE n (some (.sh (.lst (W.map .int)))) (some (.ow (R4.map .int))) (some (.sh (.int V2))) x2 (some (.sh (.int (-((bV n).length:Int))))) (some (.sh (.int (M:Int)))) (some (.sh (.bl (decide (n/43%3=1))))))=.nx (nE n (some (.sh (.lst (W.map .int)))) (some (.ow (R5.map .int))) (some (.sh (.int V2))) x2 (some (.sh (.int (-((bV n).length:Int))))) (some (.sh (.int (M:Int)))) (some (.sh (.bl (decide (n/43%3=1)))))):=by
     rw[hR5,hzx]
     by_cases h1:n/47%4=1<;>simp -implicitDefEqProofs [h1,l4]
    have hR5l:R5.length<=13:=by rw[hR5];simp;omega
    have l5:R5.length+(cT M).length<=lim:=df (by omega)
    have hcs:=Ac (me:=fD) (f:=fun c=>.int (c:Int)) M (by omega) (fun c _=>KN c) (ao 7) (nE n (some (.sh (.lst (W.map .int)))) (some (.ow (R5.map .int))) (some (.sh (.int V2))) x2 (some (.sh (.int (-((bV n).length:Int))))) (some (.sh (.int (M:Int)))) (some (.sh (.bl (decide (n/43%3=1)))))) (by simp)
    have hdd:(dN M).map (fun c:Nat=>PV.int (c:Int))=(cT M).map .int:=by rw[<- uX,List.map_map];rfl
    rw[hdd]at hcs
    have g4:bf 3 (mOp iQ (ao 3) (pV (mUn pN (ao 7)) [] fD)) (nE n (some (.sh (.lst (W.map .int)))) (some (.ow (R5.map .int))) (some (.sh (.int V2))) x2 (some (.sh (.int (-((bV n).length:Int))))) (some (.sh (.int (M:Int)))) (some (.sh (.bl (decide (n/43%3=1))))))=.nx (nE n (some (.sh (.lst (W.map .int)))) (some (.ow ((R5++cT M).map .int))) (some (.sh (.int V2))) x2 (some (.sh (.int (-((bV n).length:Int))))) (some (.sh (.int (M:Int)))) (some (.sh (.bl (decide (n/43%3=1)))))):=by
     simp -implicitDefEqProofs only[Et,Ik,hcs,AX,List.getElem?_cons_succ,List.getElem?_cons_zero,ng,DX,Ew,LC,List.length_map,l5,if_true,yf,fu,Gn,List.set_cons_succ,List.set_cons_zero,List.map_append]
    have hRex:R5++cT M=R2++exB (gb n):=by
     rw[hex,hR5,hR4,hR3];show _=R2++(eb ::(sx++(zx++cT M)));simp
    rw[hRex]at g4
    have g5:bf 6 (mOp eX (ao 6) (gk (dM (ao 8)) (mUn gn (ao 7)) (ao 7))) (nE n (some (.sh (.lst (W.map .int)))) (some (.ow ((R2++exB (gb n)).map .int))) (some (.sh (.int V2))) x2 (some (.sh (.int (-((bV n).length:Int))))) (some (.sh (.int (M:Int)))) (some (.sh (.bl (decide (n/43%3=1))))))=.nx (nE n (some (.sh (.lst (W.map .int)))) (some (.ow ((R2++exB (gb n)).map .int))) (some (.sh (.int V2))) x2 (some (.sh (.int (exV (gb n) - (bV n).length)))) (some (.sh (.int (M:Int)))) (some (.sh (.bl (decide (n/43%3=1)))))):=by
     rw[hexv];generalize (R2++exB (gb n)).map PV.int=RR
     by_cases h1:n/43%3=1
     . have e:-((bV n).length:Int) + -(M:Int)=-(M:Int) - (bV n).length:=by omega
       simp -implicitDefEqProofs [h1,e]
     . have e:-((bV n).length:Int)+(M:Int)=(M:Int) - (bV n).length:=by omega
       simp -implicitDefEqProofs [h1,e]
    have g0:bf 7 (mOp cw (mOp dA (ao 0) (mC (.int 37))) (mC (.int 30))) (nE n (some (.sh (.lst (W.map .int)))) (some (.ow (R2.map .int))) (some (.sh (.int V2))) x2 (some (.sh (.int (-((bV n).length:Int))))) none none)=.nx (nE n (some (.sh (.lst (W.map .int)))) (some (.ow (R2.map .int))) (some (.sh (.int V2))) x2 (some (.sh (.int (-((bV n).length:Int))))) (some (.sh (.int (M:Int)))) none):=by
     simp -implicitDefEqProofs [hM1]
    have g1b:bf 8 (mOp gEq (mOp cw (mOp dA (ao 0) (mC (.int 43))) (mC (.int 3))) (mC (.int 1))) (nE n (some (.sh (.lst (W.map .int)))) (some (.ow (R3.map .int))) (some (.sh (.int V2))) x2 (some (.sh (.int (-((bV n).length:Int))))) (some (.sh (.int (M:Int)))) none)=.nx (nE n (some (.sh (.lst (W.map .int)))) (some (.ow (R3.map .int))) (some (.sh (.int V2))) x2 (some (.sh (.int (-((bV n).length:Int))))) (some (.sh (.int (M:Int)))) (some (.sh (.bl (decide (n/43%3=1)))))):=by
     simp -implicitDefEqProofs
    have gt:az (mOp gEq (mOp cw (mOp dA (ao 0) (mC (.int 31))) (mC (.int 3))) (mC (.int 1))) (nE n (some (.sh (.lst (W.map .int)))) (some (.ow (R2.map .int))) (some (.sh (.int V2))) x2 (some (.sh (.int (-((bV n).length:Int))))) none none)=.ok true:=by
     simp -implicitDefEqProofs [h31]
    rw[Bp,gt];simp only[lq,if_true,pI,g0,jI,g1,g1b,g2,g3,g4,g5]
  . refine⟨none,none,?_⟩
    have hex:gb n=none:=by unfold gb;rw[if_neg h31]
    rw[hex]
    have e:(0:Int) - ((bV n).length:Int)=-((bV n).length:Int):=by omega
    simp -implicitDefEqProofs [h31,exB,exV,e]
 obtain⟨y,z,c5⟩:=c5
 have hnb:R2++exB (gb n)=PG.nb (eH n):=by
  rw[hR2,hR1,hsg];show _=(if(decide (n%3=0))=true then[45]else[])++(cT (n/3%100000).toNat++(frB (bV n)++exB (gb n)));rw[<- hK];simp
 rw[hnb]at c5
 have hmw:(if n%3=0 then -V2 else V2)=mwV (eH n):=by
  rw[hV2e];show _=(if decide (n%3=0)=true then -cv (cT (n/3%100000).toNat++bV n)else cv (cT (n/3%100000).toNat++bV n));rw[<- hK];simp
 have c6:bb (dM (ao 1)) (bf 4 (mUn gn (ao 4))) aO (nE n (some (.sh (.lst (W.map .int)))) (some (.ow ((PG.nb (eH n)).map .int))) (some (.sh (.int V2))) x2 (some (.sh (.int (exV (gb n) - (bV n).length)))) y z)=.nx (nE n (some (.sh (.lst (W.map .int)))) (some (.ow ((PG.nb (eH n)).map .int))) (some (.sh (.int (mwV (eH n))))) x2 (some (.sh (.int (exV (gb n) - (bV n).length)))) y z):=by
  rw[<- hmw]
  by_cases h:n%3=0<;>simp -implicitDefEqProofs [h]
 have hpl':fi [.int (mwV (eH n)),.int (exV (gb n) - (bV n).length)]=.ok (.sh (pairOf 20 (mwV (eH n)) (exV (gb n) - (bV n).length))):=hpl
 have c7:fin (kF (nE n (some (.sh (.lst (W.map .int)))) (some (.ow ((PG.nb (eH n)).map .int))) (some (.sh (.int (mwV (eH n))))) x2 (some (.sh (.int (exV (gb n) - (bV n).length)))) y z))=.ok (.sh (.tup [.lst ((PG.nb (eH n)).map .int),pairOf 20 (mwV (eH n)) (exV (gb n) - (bV n).length)])):=by
  generalize PG.nb (eH n)=RR;simp -implicitDefEqProofs [kF,kR,hpl']
 have c0:bf 1 (mOp gEq (mOp cw (ao 0) (mC (.int 3))) (mC (.int 0))) [some (.sh (.int n)),none,none,none,none,none,none,none,none]=.nx (nE n none none none none none none none):=by
  simp -implicitDefEqProofs
 have c3b:bf 4 (mC (.int 0)) (nE n (some (.ow (W.map .int))) (some (.ow (R1.map .int))) none none none none none)=.nx (nE n (some (.ow (W.map .int))) (some (.ow (R1.map .int))) (some (.sh (.int 0))) none none none none):=by simp -implicitDefEqProofs
 have c3c:gw 2 (mw 5 (ao 2) fE) (nE n (some (.ow (W.map .int))) (some (.ow (R1.map .int))) (some (.sh (.int 0))) none none none none)=.nx (nE n (some (.sh (.lst (W.map .int)))) (some (.ow (R1.map .int))) (some (.sh (.int V1))) x1 none none none):=by
  simp -implicitDefEqProofs [kR,w1']
 have c3d:bf 6 (mC (.int 0)) (nE n (some (.sh (.lst (W.map .int)))) (some (.ow (R1.map .int))) (some (.sh (.int V1))) x1 none none none)=.nx (nE n (some (.sh (.lst (W.map .int)))) (some (.ow (R1.map .int))) (some (.sh (.int V1))) x1 (some (.sh (.int 0))) none none):=by simp -implicitDefEqProofs
 simp -implicitDefEqProofs only[fW,sm,Cj,sC,List.map_cons,List.map_nil,List.length_cons,List.length_nil,List.replicate,List.cons_append,List.nil_append,pI,c0,jI,pj,c1,o3,c2,oU,c3,pT,c3b,o8,c3c,pX,c3d,pE,c4,oY,c5,pU,c6]
 exact c7
noncomputable def wc(j:Int):Int:=if j=0 then 32 else if j=1 then 9 else if j=2 then 10 else 13
noncomputable def lwh(n:Int):List Int:=if 0<n%4 then[]else(List.range (n/64%3+1).toNat).map fun k:Nat=>wc (n/4/(1+3*(k:Int))%4)
theorem Jy(j:Int):wht (wc j)=true:=by
 unfold wc;split
 . rfl
 . split
   . rfl
   . split<;>rfl
theorem mj(n:Int):∀ b∈lwh n,wht b=true:=by
 unfold lwh;split
 . simp
 . intro b hb;obtain⟨k,_,rfl⟩:=List.mem_map.mp hb;exact Jy _
theorem gv(n:Int):(lwh n).length<=3:=by
 unfold lwh;split
 . simp
 . simp;omega
theorem DE(n:Int)(j:Nat)(hj:j<3):jT [some (.sh (.int n)),some (.sh (.int j))]=.ok (.sh (.int (wc (n/4/(1+3*(j:Int))%4)))):=by
 have h:¬ (1+3*(j:Int))=0:=by omega
 obtain⟨r,hr⟩:∃ r,r=n/4/(1+3*(j:Int))%4:=⟨_,rfl⟩
 have h4:r=0 \/ r=1 \/ r=2 \/ r=3:=by omega
 rw[<- hr]
 have h5:0<(1+3*(j:Int)):=by omega
 have h6:(1+3*(j:Int))<1073741824:=by omega
 simp -implicitDefEqProofs [jT,h,h5,h6,<- hr]
 rcases h4 with h|h|h|h<;>rw[h]<;>rfl
theorem dS(n:Int):cz [.int n]=.ok (.fr ((lwh n).map .int)):=by
 have el:∀ m:Nat,m<=3->dg jT [some (.sh (.int n))] (dE m)=.ok ((List.range m).map fun j:Nat=>.int (wc (n/4/(1+3*(j:Int))%4))):=fun m hm=>by
  unfold dE
  refine jN _ fun j hj=>?_
  exact DE n j (by have:=List.mem_range.mp hj;omega)
 have h1:-4611686018427387904<=n/64%3+1 /\ n/64%3+1<4611686018427387904:=by omega
 by_cases h:0<n%4
 . simp[cz,pC,h,lwh]
 . have hp:(lwh n).map PV.int = (List.range (n / 64 % 3 + 1).toNat).map fun j:Nat=>.int (wc (n / 4 / (1 + 3 * (j:Int)) % 4)):=by
    unfold lwh;rw[if_neg h,List.map_map];rfl
   rw[hp];have h2:=el (n/64%3+1).toNat (by omega);simp -implicitDefEqProofs [cz,pC,h,cX,h2,h1];unfold lim;omega
noncomputable def lnm(ns:List Int)(n:Int):List Int:=if n%2=0 then[97+n/2%3]else PG.points ns (11+n/2%37)
theorem vz(ns:List Int)(n:Int):(lnm ns n).all mK=true /\ (lnm ns n).length<14:=by
 unfold lnm;split
 . refine⟨?_,by simp⟩
   have h:n/2%3=0 \/ n/2%3=1 \/ n/2%3=2:=by omega
   rcases h with h|h|h<;>rw[h]<;>decide
 . exact⟨p8 _ _,qW _ _⟩
theorem n4(ns:List Int)(n:Int):gA [.lst (ns.map .int),.int n]=.ok (.fr ((lnm ns n).map .int)):=by
 unfold lnm
 by_cases h:n%2=0
 . simp[gA,rF,h]
 . simp[gA,rF,h,gV]
noncomputable def ka(ns:List Int)(n:Int):Lf:=
 if n/5%6=0 then .wd .null else if n/5%6=1 then .wd .tru else if n/5%6=2 then .wd .fal
 else if n/5%6=3 then .tx (lts (PG.points ns (7+n%41)) (n/30) 0)else .nm (eH (n/7))
noncomputable def lfK:Lf->String
 |.wd .null=>"null" | .wd .tru=>"true" | .wd .fal=>"false" | .tx _=>"text" | .nm _=>"number"
theorem HJ(ns:List Int)(n:Int):Lok (ka ns n):=by
 unfold ka;split
 . trivial
 . split
   . trivial
   . split
     . trivial
     . split
       . exact Ft _ _ _ (p8 _ _)
       . exact Au _
theorem xX(k:Nat)(n p:Int):∃ a b,pairOf k n p=.tup [.int a,.int b]:=by
 unfold pairOf;split
 . exact⟨_,_,rfl⟩
 . exact⟨_,_,rfl⟩
noncomputable def eB(row:List Int):OV:=.ol (row.map fun b=>.sh (.int b))
noncomputable def kS(k:Bool):PV:=.str (if k then "row" else "fields")
noncomputable def frO(k:Bool)(items:List PV)(i:Nat)(nm:List Int):OV:=.ol [.sh (kS k),.ol (items.map .sh),.sh (.int i),.sh (.tup (nm.map .int))]
noncomputable def ndO(s:PV)(a b c:Int):OV:=.ol [.sh s,.sh (.int a),.sh (.int b),.sh (.int c)]
noncomputable def brk(k:Bool):Int:=if k then 93 else 125
theorem zq(xs:List PV):vK (xs.map .sh)=some xs:=by
 induction xs with
 |nil=>rfl
 |cons x xs ih=>simp[vK,ih]
noncomputable abbrev cE(r:OV)(ns fs:List OV)(a b:Option Sl):ag:=[some (.tr true r),some (.tr true (.ol ns)),some (.tr true (.ol fs)),a,b]
theorem xw(row:List Int)(nodes fs:List OV)(k:Bool)(items:List PV)(i:Nat)(nm:List Int)(s:PV)(a b c:Int)(hi:nodes[i]?=some (ndO s a b c))(hr:row.length<100000)(hn:nodes.length<100000):
  pQ (cE (eB row) nodes (fs++[frO k items i nm]) none none) =
   jX (cE (eB (row++[brk k])) (nodes.set i (ndO s a (row.length+1) nodes.length)) fs (some (.tr false (frO k items i nm))) none):=by
 have hil:i<nodes.length:=by
  rcases Nat.lt_or_ge i nodes.length with z|z
  . exact z
  . rw[List.getElem?_eq_none z]at hi;cases hi
 have e0:hX 3 (qr 2 aI) (cE (eB row) nodes (fs++[frO k items i nm]) none none) =
   .nx (cE (eB row) nodes fs (some (.tr false (frO k items i nm))) none):=by
  unfold hX;rw[GU (ts:=fs) (x:=frO k items i nm) rfl];simp[frO,slO,nio]
 have p3:∀(x y z u:Option Sl) (ix:ag->OE) (j:Nat) (v:OV),ix [x,y,z,some (.tr false (frO k items i nm)),u]=.ok (.sh (.int j))->j<4->[OV.sh (kS k),.ol (items.map .sh),.sh (.int i),.sh (.tup (nm.map .int))][j]?=some v->subAt 3 (pIx 3 aI ix) [x,y,z,some (.tr false (frO k items i nm)),u]=some v:=fun x y z u ix j v h1 h2 h3=>
  subAt_one (bK rfl rfl) (kY (bK rfl rfl) h1 rfl (by simp[ixP];omega)) h3
 unfold pQ;rw[aY e0];unfold qu
 have hd:∀(x y z u:Option Sl),mD (gk (az (mOp gEq (cF 3 (pIx 3 aI (mC (.int 0)))) (mC (.str "row")))) (mC (.int 93)) (mC (.int 125))) [x,y,z,some (.tr false (frO k items i nm)),u]=.ok (.sh (.int (brk k))):=fun x y z u=>by
  have:=nU (p3 x y z u (mC (.int 0)) 0 (.sh (kS k)) rfl (by omega) rfl)
  cases k<;>simp -implicitDefEqProofs [mD,gk,az,this,kS,brk,gEq,eqS,aH]
 have e1:b0 0 aI (mD (gk (az (mOp gEq (cF 3 (pIx 3 aI (mC (.int 0)))) (mC (.str "row")))) (mC (.int 93)) (mC (.int 125)))) (cE (eB row) nodes fs (some (.tr false (frO k items i nm))) none) =
   .nx (cE (eB (row++[brk k])) nodes fs (some (.tr false (frO k items i nm))) none):=by
  rw[uU (ts:=row.map fun b=>.sh (.int b)) rfl (hd _ _ _ _) (by rw[List.length_map];exact df (n:=row.length+1) (by omega))];simp[eB]
 rw[aY e1]
 have px:∀(x z u:Option Sl) (ns:List OV),ns.length=nodes.length->pIx 1 aI (cF 3 (pIx 3 aI (mC (.int 2)))) [x,some (.tr true (.ol ns)),z,some (.tr false (frO k items i nm)),u]=some [.ix i]:=fun x z u ns hns=>
  kY (bK rfl rfl) (nU (p3 x _ z u (mC (.int 2)) 2 (.sh (.int i)) rfl (by omega) rfl)) rfl (by simp[ixP];omega)
 unfold qE
 have e2:pB 1 (pIx 1 aI (cF 3 (pIx 3 aI (mC (.int 2))))) (mC (.int 2)) (mD (gd 0 aI)) (cE (eB (row++[brk k])) nodes fs (some (.tr false (frO k items i nm))) none) =
   .nx (cE (eB (row++[brk k])) (nodes.set i (ndO s a (row.length+1) c)) fs (some (.tr false (frO k items i nm))) none):=by
  have hl:=wa (iZ (ρ:=(cE (eB (row++[brk k])) nodes fs (some (.tr false (frO k items i nm))) none)) (i:=0) (bK rfl rfl));rw[uN (j2:=2) rfl (px _ _ _ nodes rfl) hi rfl rfl rfl (x:=.sh (.int (row.length+1))) (by unfold mD;rw[hl];simp)];rfl
 rw[aY e2];unfold qF
 have e3:pB 1 (pIx 1 aI (cF 3 (pIx 3 aI (mC (.int 2))))) (mC (.int 3)) (mD (gd 1 aI)) (cE (eB (row++[brk k])) (nodes.set i (ndO s a (row.length+1) c)) fs (some (.tr false (frO k items i nm))) none) =
   .nx (cE (eB (row++[brk k])) (nodes.set i (ndO s a (row.length+1) nodes.length)) fs (some (.tr false (frO k items i nm))) none):=by
  have hl:=wa (iZ (ρ:=(cE (eB (row++[brk k])) (nodes.set i (ndO s a (row.length+1) c)) fs (some (.tr false (frO k items i nm))) none)) (i:=1) (bK rfl rfl))
  have hi2:(nodes.set i (ndO s a (row.length+1) c))[i]?=some (ndO s a (row.length+1) c):=by simp[hil]
  rw[uN (j2:=3) rfl (px _ _ _ _ (by simp)) hi2 rfl rfl rfl (x:=.sh (.int nodes.length)) (by unfold mD;rw[hl];simp)];simp[ndO]
 rw[aY e3]
theorem xn(x y z:Option Sl)(k:Bool)(items:List PV)(i:Nat)(nm:List Int)(hit:items.length<100000):
  bf 4 (eU (ak (cF 3 (pIx 3 aI (mC (.int 0)))) (ak (mUn mG (cF 3 (pIx 3 aI (mC (.int 1))))) aJ))) [x,y,z,some (.tr false (frO k items i nm)),none] =
   .nx [x,y,z,some (.tr false (frO k items i nm)),some (.sh (.tup [kS k,.tup items]))]:=by
 have p3:∀(ix:ag->OE) (j:Nat) (v:OV),ix [x,y,z,some (.tr false (frO k items i nm)),none]=.ok (.sh (.int j))->j<4->[OV.sh (kS k),.ol (items.map .sh),.sh (.int i),.sh (.tup (nm.map .int))][j]?=some v->subAt 3 (pIx 3 aI ix) [x,y,z,some (.tr false (frO k items i nm)),none]=some v:=fun ix j v h1 h2 h3=>
  subAt_one (bK rfl rfl) (kY (bK rfl rfl) h1 rfl (by simp[ixP];omega)) h3
 have h0:=nU (p3 (mC (.int 0)) 0 (.sh (kS k)) rfl (by omega) rfl)
 have h1:cF 3 (pIx 3 aI (mC (.int 1))) [x,y,z,some (.tr false (frO k items i nm)),none]=.ok (.al items):=by
  unfold cF;rw[p3 (mC (.int 1)) 1 (.ol (items.map .sh)) rfl (by omega) rfl];simp only[zq]
 simp -implicitDefEqProofs [bf,h0,h1,mG]
theorem Bm(row:List Int)(nodes:List OV)(k:Bool)(items:List PV)(i:Nat)(nm:List Int)(s:PV)(a b c:Int)(hi:nodes[i]?=some (ndO s a b c))(hr:row.length<100000)(hn:nodes.length<100000)(hit:items.length<100000):
  cS [.tr true (eB row),.tr true (.ol nodes),.tr true (.ol [frO k items i nm])] =
   .ok (.tup [kS k,.tup items]) [some (eB (row++[brk k])),some (.ol (nodes.set i (ndO s a (row.length+1) nodes.length))),some (.ol [])]:=by
 unfold cS fnI;have e:=xw row nodes [] k items i nm s a b c hi hr hn;rw[List.nil_append]at e
 have e0:km 5 [.tr true (eB row),.tr true (.ol nodes),.tr true (.ol [frO k items i nm])]=(cE (eB row) nodes [frO k items i nm] none none):=rfl
 rw[if_pos (show List.length [Sl.tr true (eB row),Sl.tr true (.ol nodes),Sl.tr true (.ol [frO k items i nm])]=3 from rfl),e0,e];unfold jX;rw[aY (xn _ _ _ k items i nm hit)];unfold mJ;have h:=vE (iZ (ρ:=(cE (eB (row++[brk k])) (nodes.set i (ndO s a (row.length+1) nodes.length)) [] (some (.tr false (frO k items i nm))) (some (.sh (.tup [kS k,.tup items]))))) (i:=2) (bK rfl rfl));simp -implicitDefEqProofs [bb,h,jS,gY,tX,pA]
theorem Bl(row:List Int)(nodes gs:List OV)(k k':Bool)(items items':List PV)(i i':Nat)(nm nm':List Int)(s s2:PV)(a b c a2 b2 c2:Int)(hi:nodes[i]?=some (ndO s a b c))(hr:row.length<100000)(hn:nodes.length<100000)(hit:items.length<100000)(hit':items'.length<100000)
  (h2:k'=false->1<=i /\ nodes[i - 1]?=some (ndO s2 a2 b2 c2)):
  cS [.tr true (eB row),.tr true (.ol nodes),.tr true (.ol (gs++[frO k' items' i' nm']++[frO k items i nm]))] =
   .ok (.tup [kS k,.tup items]) [some (eB (row++[brk k])),some (.ol (if k' then nodes.set i (ndO s a (row.length+1) nodes.length)else(nodes.set i (ndO s a (row.length+1) nodes.length)).set (i - 1) (ndO s2 a2 b2 nodes.length))),
    some (.ol (gs++[frO k' (items'++[if k' then .tup [kS k,.tup items]else .tup [.tup (nm.map .int),.tup [kS k,.tup items]]]) i' nm']))]:=by
 have hil:i<nodes.length:=by
  rcases Nat.lt_or_ge i nodes.length with z|z
  . exact z
  . rw[List.getElem?_eq_none z]at hi;cases hi
 unfold cS fnI;have e:=xw row nodes (gs++[frO k' items' i' nm']) k items i nm s a b c hi hr hn
 have e0:km 5 [.tr true (eB row),.tr true (.ol nodes),.tr true (.ol (gs++[frO k' items' i' nm']++[frO k items i nm]))]=(cE (eB row) nodes (gs++[frO k' items' i' nm']++[frO k items i nm]) none none):=rfl
 rw[if_pos (show List.length [Sl.tr true (eB row),Sl.tr true (.ol nodes),Sl.tr true (.ol (gs++[frO k' items' i' nm']++[frO k items i nm]))]=3 from rfl),e0,e];unfold jX;rw[aY (xn _ _ _ k items i nm hit)];unfold mJ;generalize hN:nodes.set i (ndO s a (row.length+1) nodes.length)=N
 have hNl:N.length=nodes.length:=by rw[<- hN];simp
 generalize hv:PV.tup [kS k,.tup items]=val;generalize hR:eB (row++[brk k])=R;have h:=vE (iZ (ρ:=(cE R N (gs++[frO k' items' i' nm']) (some (.tr false (frO k items i nm))) (some (.sh val)))) (i:=2) (bK rfl rfl))
 have hg:∀ u:OV,(gs++[u])[gs.length]?=some u:=fun u=>by simp
 have px:∀(x y w v:Option Sl) (u:OV),pIx 2 aI (mUn gn (mC (.int 1))) [x,y,some (.tr true (.ol (gs++[u]))),w,v]=some [.ix gs.length]:=fun x y w v u=>
  kY (bK rfl rfl) (r:=.sh (.int (-1))) (by simp) rfl (by simp[ixP];omega)
 have p0:∀(x y w v:Option Sl) (its:List PV),cF 2 (pIx 2 (pIx 2 aI (mUn gn (mC (.int 1)))) (mC (.int 0))) [x,y,some (.tr true (.ol (gs++[frO k' its i' nm']))),w,v]=.ok (.sh (kS k')):=fun x y w v its=>
  nU (tm (bK rfl rfl) (yr (bK rfl rfl) (px _ _ _ _ _) (hg _) (k:=0) (j2:=0) rfl rfl rfl) (hg _) rfl)
 have e1:b0 2 (pIx 2 (pIx 2 aI (mUn gn (mC (.int 1)))) (mC (.int 1))) (mD (gk (az (mOp gEq (cF 2 (pIx 2 (pIx 2 aI (mUn gn (mC (.int 1)))) (mC (.int 0)))) (mC (.str "row")))) (ao 4) (eU (ak (cF 3 (pIx 3 aI (mC (.int 3)))) (ak (ao 4) aJ)))))
   (cE R N (gs++[frO k' items' i' nm']) (some (.tr false (frO k items i nm))) (some (.sh val))) =
   .nx (cE R N (gs++[frO k' (items'++[if k' then val else .tup [.tup (nm.map .int),val]]) i' nm']) (some (.tr false (frO k items i nm))) (some (.sh val))):=by
  have p3:cF 3 (pIx 3 aI (mC (.int 3))) (cE R N (gs++[frO k' items' i' nm']) (some (.tr false (frO k items i nm))) (some (.sh val)))=.ok (.sh (.tup (nm.map .int))):=
   nU (subAt_one (bK rfl rfl) (kY (bK rfl rfl) (k:=3) (j:=3) rfl rfl rfl) rfl)
  have hd:mD (gk (az (mOp gEq (cF 2 (pIx 2 (pIx 2 aI (mUn gn (mC (.int 1)))) (mC (.int 0)))) (mC (.str "row")))) (ao 4) (eU (ak (cF 3 (pIx 3 aI (mC (.int 3)))) (ak (ao 4) aJ))))
    (cE R N (gs++[frO k' items' i' nm']) (some (.tr false (frO k items i nm))) (some (.sh val)))=.ok (.sh (if k' then val else .tup [.tup (nm.map .int),val])):=by
   have q0:=p0 (some (.tr true R)) (some (.tr true (.ol N))) (some (.tr false (frO k items i nm))) (some (.sh val)) items'
   cases k'<;>simp -implicitDefEqProofs [mD,gk,az,q0,p3,kS,gEq,eqS,aH]
  rw[Co (j:=gs.length) (j2:=1) rfl (yr (bK rfl rfl) (px _ _ _ _ _) (hg _) (k:=1) (j2:=1) rfl rfl rfl) (hg _) (xs:=items'.map .sh) rfl hd (by rw[List.length_map];exact df (n:=items'.length+1) (by omega))];simp[frO]
 cases k' with
 | true=>
   have q0:=p0 (some (.tr true R)) (some (.tr true (.ol N))) (some (.tr false (frO k items i nm))) (some (.sh val)) (items'++[val]);rw[if_pos rfl]at e1
   have hb:(!(gs++[frO true items' i' nm']).isEmpty)=true:=by simp
   rw[hb]at h;refine Eq.trans (congrArg _ (aY (ρ':=(cE R N (gs++[frO true (items'++[val]) i' nm']) (some (.tr false (frO k items i nm))) (some (.sh val)))) ?_)) ?_
   . unfold bb;rw[h];refine Eq.trans (aY e1) ?_;simp -implicitDefEqProofs [bb,az,q0,kS,gEq,eqS,aH]
   . simp -implicitDefEqProofs [jS,gY,tX,pA]
 | false=>
   obtain⟨h1,h3⟩:=h2 rfl;have q0:=p0 (some (.tr true R)) (some (.tr true (.ol N))) (some (.tr false (frO k items i nm))) (some (.sh val)) (items'++[.tup [.tup (nm.map .int),val]]);rw[if_neg (by simp)]at e1
   have hb:(!(gs++[frO false items' i' nm']).isEmpty)=true:=by simp
   rw[hb]at h
   have hN1:N[i - 1]?=some (ndO s2 a2 b2 c2):=by rw[<- hN,List.getElem?_set_ne (by omega)];exact h3
   have hp2:mOp wA (cF 3 (pIx 3 aI (mC (.int 2)))) (mC (.int 1)) (cE R N (gs++[frO false (items'++[.tup [.tup (nm.map .int),val]]) i' nm']) (some (.tr false (frO k items i nm))) (some (.sh val)))=.ok (.sh (.int (i - 1:Int))):=by
    have q2:=nU (ρ:=(cE R N (gs++[frO false (items'++[.tup [.tup (nm.map .int),val]]) i' nm']) (some (.tr false (frO k items i nm))) (some (.sh val)))) (i:=3) (mp:=pIx 3 aI (mC (.int 2))) (x:=.int i) (subAt_one (bK rfl rfl) (kY (bK rfl rfl) (k:=2) (j:=2) rfl rfl rfl) rfl);simp[q2]
   have hl:=wa (iZ (ρ:=(cE R N (gs++[frO false (items'++[.tup [.tup (nm.map .int),val]]) i' nm']) (some (.tr false (frO k items i nm))) (some (.sh val)))) (i:=1) (bK rfl rfl))
   have e3:=uN (ρ:=(cE R N (gs++[frO false (items'++[.tup [.tup (nm.map .int),val]]) i' nm']) (some (.tr false (frO k items i nm))) (some (.sh val)))) (i:=1) (io:=true) (ts:=N) (j:=i - 1) (j2:=3) (mk:=mC (.int 3)) (md:=mD (gd 1 aI)) (x:=.sh (.int N.length)) rfl
    (kY (i:=1) (ts:=N) (bK (s:=.tr true (.ol N)) rfl rfl) hp2 rfl (by rw[show((i:Int) - 1)=((i - 1:Nat):Int) by omega];unfold ixP;rw[if_pos (by omega),if_pos (by omega)];simp)) hN1 rfl rfl rfl (by unfold mD;rw[hl])
   refine Eq.trans (congrArg _ (aY (ρ':=(cE R (N.set (i - 1) (ndO s2 a2 b2 N.length)) (gs++[frO false (items'++[.tup [.tup (nm.map .int),val]]) i' nm']) (some (.tr false (frO k items i nm))) (some (.sh val)))) ?_)) ?_
   . unfold bb;rw[h];refine Eq.trans (aY e1) ?_;simp -implicitDefEqProofs [bb,az,q0,kS,gEq,eqS,aH];exact e3
   . rw[hNl];simp -implicitDefEqProofs [jS,gY,tX,pA]
structure Fr where
 k:Bool
 items:List PV
 i:Nat
 nm:List Int
structure Nd where
 s:String
 a:Int
 b:Int
 c:Int
structure Bd where
 row:List Int
 nodes:List Nd
 frs:List Fr
 val:PV
noncomputable def Fr.o(f:Fr):OV:=frO f.k f.items f.i f.nm
noncomputable def Nd.o(d:Nd):OV:=ndO (.str d.s) d.a d.b d.c
noncomputable def j3(fs:List Fr):OV:=.ol (fs.reverse.map Fr.o)
noncomputable def lA(ns:List Nd):OV:=.ol (ns.map Nd.o)
theorem lj(f:Fr)(fs:List Fr):j3 (f ::fs)=.ol (fs.reverse.map Fr.o++[f.o]):=by simp[j3]
noncomputable def full:List Fr->Bool
 |f ::_=>!f.items.isEmpty
 |[]=>false
noncomputable def inF:List Fr->Bool
 |f ::_=>!f.k
 |[]=>false
theorem qD{ρ:ag}{i:Nat}{io:Bool}{fs:List Fr}(h:ρ[i]?=some (some (.tr io (j3 fs)))):du i aI ρ=.ok (!fs.isEmpty):=by
 rw[vE (iZ (bK h rfl))]
 cases fs<;>simp
theorem Hf{ρ:ag}{i:Nat}{io:Bool}{f:Fr}{fs:List Fr}(h:ρ[i]?=some (some (.tr io (j3 (f ::fs))))):pIx i aI (mUn gn (mC (.int 1))) ρ=some [.ix fs.length]:=by
 rw[lj]at h;exact kY (bK h rfl) (r:=.sh (.int (-1))) (by simp) rfl (by simp[ixP];omega)
theorem uR(f:Fr)(fs:List Fr):(fs.reverse.map Fr.o++[f.o])[fs.length]?=some f.o:=by simp
theorem wb{ρ:ag}{i:Nat}{io:Bool}{f:Fr}{fs:List Fr}(k:Int)(j:Nat)(hk:k=j)(hj:j<4)(h:ρ[i]?=some (some (.tr io (j3 (f ::fs))))):pIx i (pIx i aI (mUn gn (mC (.int 1)))) (mC (.int k)) ρ=some [.ix fs.length,.ix j]:=by
 have h1:=Hf h;rw[lj]at h;subst hk;refine yr (bK h rfl) h1 (uR f fs) (k:=j) rfl rfl ?_;simp[ixP];omega
theorem DM{ρ:ag}{i:Nat}{io:Bool}{fs:List Fr}(h:ρ[i]?=some (some (.tr io (j3 fs)))):
  da (du i aI) (az (mOp gEq (cF i (pIx i (pIx i aI (mUn gn (mC (.int 1)))) (mC (.int 0)))) (mC (.str "fields")))) ρ=.ok (inF fs):=by
 cases fs with
 |nil=>simp[da,qD h,inF]
 | cons f fs=>
   have hi:=wb 0 0 rfl (by omega) h
   have h':=h
   rw[lj]at h';have hp:=nU (tm (bK h' rfl) hi (uR f fs) rfl)
   cases hk:f.k<;>simp -implicitDefEqProofs [da,qD h,inF,az,hp,hk,kS,gEq,eqS,aH]
theorem Lr{ρ:ag}{i:Nat}{io:Bool}{fs:List Fr}(h:ρ[i]?=some (some (.tr io (j3 fs)))):
  da (du i aI) (dM (cF i (pIx i (pIx i aI (mUn gn (mC (.int 1)))) (mC (.int 1))))) ρ=.ok (full fs):=by
 cases fs with
 |nil=>simp[da,qD h,full]
 | cons f fs=>
   have hi:=wb 1 1 rfl (by omega) h
   have h':=h
   rw[lj]at h'
   have hp:cF i (pIx i (pIx i aI (mUn gn (mC (.int 1)))) (mC (.int 1))) ρ=.ok (.al f.items):=by
    unfold cF;rw[tm (bK h' rfl) hi (uR f fs) (u:=.ol (f.items.map .sh)) rfl];simp only[zq]
   simp -implicitDefEqProofs [da,qD h,full,dM,hp,ud]
noncomputable def jP(fs:List Fr)(row:List Int)(n:Int):List Int:=row++lwh (n/3)++(if full fs then 44 ::lwh (n/11)else[])
noncomputable def lS(ns:List Int)(n:Int):List Sg:=lts (lnm ns (n/13)) (n/17) 0
noncomputable def u3(ns:List Int)(n:Int):List Int:=lwh (n/19)++58 ::lwh (n/23)
noncomputable def dv(ns:List Int)(B:Bd)(n:Int):List Int:=if inF B.frs then jP B.frs B.row n++PG.txt (lS ns n)++u3 ns n else jP B.frs B.row n
noncomputable def bZ(ns:List Int)(B:Bd)(n:Int):List Nd:=if inF B.frs then B.nodes++[⟨"name",(jP B.frs B.row n).length,(jP B.frs B.row n++PG.txt (lS ns n)).length,0⟩]else B.nodes
noncomputable def fB(ns:List Int)(B:Bd)(n:Int):List Int:=if inF B.frs then lnm ns (n/13)else[]
theorem vk(fs:List Fr)(row:List Int)(n:Int):(jP fs row n).length<=row.length+7:=by
 unfold jP;have h1:=gv (n/3);have h2:=gv (n/11)
 cases full fs<;>simp<;>omega
theorem B8(l:List Int)(n:Int)(h:l.all mK=true)(h2:l.length<14):(PG.txt (lts l n 0)).length<=158:=by
 rcases Cp l n 0 with z|z
 . simp[PG.txt];omega
 . rw[h]at z;cases z
theorem xD(ns:List Int)(n:Int):(PG.txt (lS ns n)).length<=158:=B8 _ _ (vz ns _).1 (vz ns _).2
theorem qc(ns:List Int)(B:Bd)(n:Int):(dv ns B n).length<=B.row.length+180:=by
 unfold dv u3;have h1:=vk B.frs B.row n;have h2:=xD ns n;have h3:=gv (n/19);have h4:=gv (n/23)
 cases inF B.frs<;>simp<;>omega
theorem mm{ρ:ag}{i:Nat}{io:Bool}{row ys:List Int}{me:ag->OE}(h:ρ[i]?=some (some (.tr io (eB row))))(he:me ρ=.ok (.fr (ys.map .int)) \/ me ρ=.ok (.sh (.lst (ys.map .int))))(hl:row.length+ys.length<=1000000):dH i aI me ρ=.nx (ρ.set i (some (.tr io (eB (row++ys))))):=by
 rw[EG (ts:=row.map fun b=>.sh (.int b)) h he (by rw[List.length_map,List.length_map];exact df hl)];simp[eB,Function.comp_def]
theorem x8{ρ:ag}{i:Nat}{io:Bool}{row:List Int}{b:Int}{md:ag->OD}(h:ρ[i]?=some (some (.tr io (eB row))))(hd:md ρ=.ok (.sh (.int b)))(hl:row.length<1000000):b0 i aI md ρ=.nx (ρ.set i (some (.tr io (eB (row++[b]))))):=by
 rw[uU (ts:=row.map fun b=>.sh (.int b)) h hd (by rw[List.length_map];exact df (n:=row.length+1) (by omega))];simp[eB]
theorem ya{ρ:ag}{i:Nat}{io:Bool}{nds:List Nd}{d:Nd}{md:ag->OD}(h:ρ[i]?=some (some (.tr io (lA nds))))(hd:md ρ=.ok d.o)(hl:nds.length<1000000):b0 i aI md ρ=.nx (ρ.set i (some (.tr io (lA (nds++[d]))))):=by
 rw[uU (ts:=nds.map Nd.o) h hd (by rw[List.length_map];exact df (n:=nds.length+1) (by omega))];simp[lA]
theorem uZ{ρ:ag}{i:Nat}{io:Bool}{row:List Int}(h:ρ[i]?=some (some (.tr io (eB row)))):gd i aI ρ=.ok (.sh (.int row.length)):=by
 rw[wa (iZ (bK h rfl)),List.length_map]
theorem yu{ρ:ag}{i:Nat}{io:Bool}{nds:List Nd}(h:ρ[i]?=some (some (.tr io (lA nds)))):gd i aI ρ=.ok (.sh (.int nds.length)):=by
 rw[wa (iZ (bK h rfl)),List.length_map]
noncomputable abbrev gE(ns row:List Int)(ds:List Nd)(fs:List Fr)(n:Int)(a b c:Option Sl):ag:=[some (.sh (.lst (ns.map .int))),some (.tr true (eB row)),some (.tr true (lA ds)),some (.tr true (j3 fs)),some (.sh (.int n)),a,b,c]
theorem Hl(ns:List Int)(B:Bd)(n:Int)(hr:B.row.length<100000)(hn:B.nodes.length<100000):
  fH [.sh (.lst (ns.map .int)),.tr true (eB B.row),.tr true (lA B.nodes),.tr true (j3 B.frs),.sh (.int n)] =
   .ok (.tup ((fB ns B n).map .int)) [none,some (eB (dv ns B n)),some (lA (bZ ns B n)),some (j3 B.frs),none]:=by
 have hw:∀(ρ:ag) (d:Int),ρ[4]?=some (some (.sh (.int n)))->0<d->d<1000->br cz (ak (mOp dA (ao 4) (mC (.int d))) aJ) ρ=.ok (.fr ((lwh (n/d)).map .int)):=fun ρ d h h1 h2=>by
  have h3:¬ d=0:=by omega
  have h4:d<1073741824:=by omega
  simp[h,h1,h3,h4,dS]
 have hbl:=vk B.frs B.row n
 have e0:lQ (gE ns B.row B.nodes B.frs n none none none) =
   mV (gE ns (jP B.frs B.row n) B.nodes B.frs n (some (.sh (.tup []))) none none):=by
  unfold lQ;rw[aY (mm rfl (.inl (hw _ 3 rfl (by omega) (by omega))) (by have:=gv (n/3);omega))];unfold qw;rw[aY (ρ':=(gE ns (B.row++lwh (n/3)) B.nodes B.frs n (some (.sh (.tup []))) none none)) (by simp[bf])];unfold qC;refine aY ?_;unfold bb;rw[Lr (fs:=B.frs) rfl];have h3:=gv (n/3);have h11:=gv (n/11)
  cases hf:full B.frs with
  |false=>simp[jP,hf,aO]
  | true=>
    refine Eq.trans (aY (x8 (row:=B.row++lwh (n/3)) rfl rfl (by simp;omega))) ?_;refine Eq.trans (mm rfl (.inl (hw _ 11 rfl (by omega) (by omega))) (by simp;omega)) ?_;simp[jP,hf]
 unfold fH fnI;rw[if_pos (show List.length [Sl.sh (.lst (ns.map .int)),.tr true (eB B.row),.tr true (lA B.nodes),.tr true (j3 B.frs),.sh (.int n)]=5 from rfl)];show tX 5 (lQ _)=_;rw[show km 8 [.sh (.lst (ns.map .int)),.tr true (eB B.row),.tr true (lA B.nodes),.tr true (j3 B.frs),.sh (.int n)]=(gE ns B.row B.nodes B.frs n none none none) from rfl,e0];unfold mV
 cases hf:inF B.frs with
 | false=>
   rw[aY (ρ':=(gE ns (jP B.frs B.row n) B.nodes B.frs n (some (.sh (.tup []))) none none)) (by
    unfold bb;rw[DM (fs:=B.frs) rfl,hf]
    rfl)]
   simp[fB,dv,bZ,hf,mR,gY,tX,pA]
 | true=>
   generalize hrow:jP B.frs B.row n=row;rw[hrow]at hbl;have ht:=xD ns n;have h19:=gv (n/19);have h23:=gv (n/23);have hnm:=n4 ns (n/13);have htx:=jF (lnm ns (n/13)) (n/17) (vz ns _).1 (by have:=(vz ns (n/13)).2;omega)
   change fO _=.ok (.fr ((PG.txt (lS ns n)).map .int))at htx
   rw[aY (ρ':=(gE ns (dv ns B n) (bZ ns B n) B.frs n (some (.sh (.tup ((fB ns B n).map .int)))) (some (.sh (.lst ((lnm ns (n/13)).map .int)))) (some (.sh (.int row.length))))) (by
    unfold bb;rw[DM (fs:=B.frs) rfl,hf];show aG _ _ _=_;rw[aY (ρ':=(gE ns row B.nodes B.frs n (some (.sh (.tup []))) (some (.ow ((lnm ns (n/13)).map .int))) none)) (by simp[bf,hnm])];rw[aY (ρ':=(gE ns row B.nodes B.frs n (some (.sh (.tup ((fB ns B n).map .int)))) (some (.ow ((lnm ns (n/13)).map .int))) none)) (by simp[bf,mG,fB,hf])];rw[aY (ρ':=(gE ns row B.nodes B.frs n (some (.sh (.tup ((fB ns B n).map .int)))) (some (.ow ((lnm ns (n/13)).map .int))) (some (.sh (.int row.length))))) (by unfold bf;rw[uZ (row:=row) rfl];simp)]
    rw[aY (ρ':=(gE ns (row++PG.txt (lS ns n)) B.nodes B.frs n (some (.sh (.tup ((fB ns B n).map .int)))) (some (.sh (.lst ((lnm ns (n/13)).map .int)))) (some (.sh (.int row.length))))) (by
     unfold gw
     exact mm (row:=row) rfl (.inl (by simp[kR,htx])) (by omega))]
    rw[aY (ya (nds:=B.nodes) (d:=⟨"name",row.length,(row++PG.txt (lS ns n)).length,0⟩) rfl (by
     have:=uZ (ρ:=(gE ns (row++PG.txt (lS ns n)) B.nodes B.frs n (some (.sh (.tup ((fB ns B n).map .int)))) (some (.sh (.lst ((lnm ns (n/13)).map .int)))) (some (.sh (.int row.length))))) (i:=1) (row:=row++PG.txt (lS ns n)) rfl
     simp[mD,this,Nd.o,ndO]) (by omega))]
    rw[aY (mm (row:=row++PG.txt (lS ns n)) rfl (.inl (hw _ 19 rfl (by omega) (by omega))) (by simp;omega))];rw[aY (x8 (row:=row++PG.txt (lS ns n)++lwh (n/19)) rfl rfl (by simp;omega))];rw[mm (row:=row++PG.txt (lS ns n)++lwh (n/19)++[58]) rfl (.inl (hw _ 23 rfl (by omega) (by omega))) (by simp;omega)]
    simp[dv,bZ,hf,hrow,u3])]
   simp[mR,gY,tX,pA]
noncomputable def lfV(ns:List Int)(n:Int):PV:=
 if n/5%6=0 then .non else if n/5%6=1 then .bl true else if n/5%6=2 then .bl false
 else if n/5%6=3 then .tup [.str "text",.tup ((PG.points ns (7+n%41)).map .int)]
 else match pairOf 20 (mwV (eH (n/7))) (exV (eH (n/7)).ex - (eH (n/7)).fr.length)with
  |.tup [.int a,.int b]=>.tup [.str "number",.int a,.int b]
  |_=>.non
theorem GG(ns:List Int)(n:Int)(hn:0<=n):cu [.lst (ns.map .int),.int n]=.ok (.sh (.tup [.str (lfK (ka ns n)),.lst ((lfb (ka ns n)).map .int),lfV ns n])):=by
 have e1:=gV ns (7+n%41);have e2:=jF (PG.points ns (7+n%41)) (n/30) (p8 _ _) (by have:=qW ns (7+n%41);omega);have e3:=kT (n/7) (by omega)
 have e0:cu [.lst (ns.map .int),.int n]=fin (kH [some (.sh (.lst (ns.map .int))),some (.sh (.int n)),some (.sh (.int (n/5%6))),none,none]):=by
  unfold cu fnP;rw[if_pos (show List.length [PV.lst (ns.map .int),.int n]=2 from rfl),show kB 5 [PV.lst (ns.map .int),.int n]=[some (.sh (.lst (ns.map .int))),some (.sh (.int n)),none,none,none] from rfl];unfold mx;rw[aY (ρ':=[some (.sh (.lst (ns.map .int))),some (.sh (.int n)),some (.sh (.int (n/5%6))),none,none]) (by simp[bf])]
 rw[e0]
 have no:∀ i:Int,¬ n/5%6=i->az (mOp gEq (ao 2) (mC (.int i))) [some (.sh (.lst (ns.map .int))),some (.sh (.int n)),some (.sh (.int (n/5%6))),none,none]=.ok false:=fun i h=>by simp[az,h]
 have yes:∀ i:Int,n/5%6=i->az (mOp gEq (ao 2) (mC (.int i))) [some (.sh (.lst (ns.map .int))),some (.sh (.int n)),some (.sh (.int (n/5%6))),none,none]=.ok true:=fun i h=>by simp[az,h]
 unfold ka lfV
 by_cases h0:n/5%6=0
 . rw[if_pos h0,if_pos h0];exact ku (ρ:=[some (.sh (.lst (ns.map .int))),some (.sh (.int n)),some (.sh (.int (n/5%6))),none,none]) (st (yes 0 h0) (by simp[lfK,lfb,wdb]))
 rw[if_neg h0,if_neg h0]
 by_cases h1:n/5%6=1
 . rw[if_pos h1,if_pos h1];exact ku (ρ:=[some (.sh (.lst (ns.map .int))),some (.sh (.int n)),some (.sh (.int (n/5%6))),none,none]) ((sk (no 0 h0)).trans (st (yes 1 h1) (by simp[lfK,lfb,wdb])))
 rw[if_neg h1,if_neg h1]
 by_cases h2:n/5%6=2
 . rw[if_pos h2,if_pos h2];exact ku (ρ:=[some (.sh (.lst (ns.map .int))),some (.sh (.int n)),some (.sh (.int (n/5%6))),none,none]) ((sk (no 0 h0)).trans ((sk (no 1 h1)).trans (st (yes 2 h2) (by simp[lfK,lfb,wdb]))))
 rw[if_neg h2,if_neg h2]
 by_cases h3:n/5%6=3
 . rw[if_pos h3,if_pos h3];exact ku (ρ:=[some (.sh (.lst (ns.map .int))),some (.sh (.int n)),some (.sh (.int (n/5%6))),some (.sh (.lst ((PG.points ns (7+n%41)).map .int))),none]) ((sk (no 0 h0)).trans ((sk (no 1 h1)).trans ((sk (no 2 h2)).trans (st (yes 3 h3) ((aY (ρ':=[some (.sh (.lst (ns.map .int))),some (.sh (.int n)),some (.sh (.int (n/5%6))),some (.ow ((PG.points ns (7+n%41)).map .int)),none]) (by simp[bf,e1])).trans (by simp[gw,kR,e2,mG,lfK,lfb]))))))
 rw[if_neg h3,if_neg h3];obtain⟨a,b,hab⟩:=xX 20 (mwV (eH (n/7))) (exV (eH (n/7)).ex - (eH (n/7)).fr.length)
 rw[hab]at e3 ⊢
 exact ku (ρ:=[some (.sh (.lst (ns.map .int))),some (.sh (.int n)),some (.sh (.int (n/5%6))),none,some (.sh (.tup [.lst ((PG.nb (eH (n/7))).map .int),.tup [.int a,.int b]]))]) ((sk (no 0 h0)).trans ((sk (no 1 h1)).trans ((sk (no 2 h2)).trans ((sk (no 3 h3)).trans ((aY (ρ':=[some (.sh (.lst (ns.map .int))),some (.sh (.int n)),some (.sh (.int (n/5%6))),none,some (.sh (.tup [.lst ((PG.nb (eH (n/7))).map .int),.tup [.int a,.int b]]))]) (by simp[bf,e3])).trans (by simp[kI,dw,atP,ixP,lfK,lfb]))))))
theorem CO(n:Int):(PG.nb (eH n)).length<=30:=by
 have h1:(cT (n/3%100000).toNat).length<=5:=o2 4 _ (by omega)
 have h2:(cT (n/37%30).toNat).length<=2:=o2 1 _ (by omega)
 have h3:(frB (bV n)).length<=4:=by
  have:(bV n).length<=3:=by unfold bV;split<;>simp;omega
  unfold frB
  split<;>simp;omega
 have h4:(exB (gb n)).length<=6:=by
  unfold gb;split
  . have hs:(if n/43%3=1 then[45]else if n/43%3=2 then[43]else[]:List Int).length<=1:=by split;simp;split<;>simp
    have ht:(if n/47%4=1 then[48]else[]:List Int).length<=1:=by split<;>simp
    simp only[exB,List.length_append,List.length_cons];omega
  . simp[exB]
 unfold PG.nb eH;simp only[List.length_append]
 split<;>simp<;>omega
theorem Cr(ns:List Int)(n:Int):(lfb (ka ns n)).length<=160:=by
 unfold ka;split
 . simp[lfb,wdb]
 . split
   . simp[lfb,wdb]
   . split
     . simp[lfb,wdb]
     . split
       . have:=B8 (PG.points ns (7+n%41)) (n/30) (p8 _ _) (qW _ _);simp only[lfb];omega
       . have:=CO (n/7);simp only[lfb];omega
noncomputable def ky(nm:List Int)(v:PV):List Fr->List Fr
 |[]=>[]
 |g ::gs=>{ g with items:=g.items++[if g.k then v else .tup [.tup (nm.map .int),v]] } ::gs
noncomputable def Bd.close(B:Bd):Bd:=match B.frs with
 |[]=>B
 | f ::fs=>⟨B.row ++ [brk f.k],
     let ns:=B.nodes.modify f.i fun d=>{ d with b:=B.row.length+1,c:=B.nodes.length }
     if inF fs then ns.modify (f.i - 1) fun d=>{ d with c:=B.nodes.length } else ns,
     ky f.nm (.tup [kS f.k,.tup f.items]) fs,.tup [kS f.k,.tup f.items]⟩
noncomputable def kN(k:Bool):String:=if k then "row" else "fields"
noncomputable def Bd.opn(ns:List Int)(B:Bd)(n:Int):Bd:=
 ⟨dv ns B n++[if n/5%2=0 then 91 else 123],bZ ns B n++[⟨kN (n/5%2=0),(dv ns B n).length,0,0⟩],⟨n/5%2=0,[],(bZ ns B n).length,fB ns B n⟩ ::B.frs,B.val⟩
noncomputable def Bd.leaf(ns:List Int)(B:Bd)(n:Int):Bd:=
 ⟨dv ns B n++lfb (ka ns n),
   let ds:=bZ ns B n++[⟨lfK (ka ns n),(dv ns B n).length,(dv ns B n++lfb (ka ns n)).length,(bZ ns B n).length+1⟩]
   if inF B.frs then ds.modify (ds.length - 2) fun d=>{ d with c:=ds.length } else ds,
   ky (fB ns B n) (lfV ns n) B.frs,lfV ns n⟩
noncomputable def Bd.step(ns:List Int)(B:Bd)(k:Nat):Bd:=
 if B.frs.isEmpty=false /\ PG.mix ns k%5=1 then Bd.close { B with row:=B.row++lwh (PG.mix ns k/3) }
 else if B.frs.isEmpty=false \/ k=0 then
  if PG.mix ns k%5>2 \/ (k=0 /\ PG.mix ns k%9>0)then B.opn ns (PG.mix ns k)else B.leaf ns (PG.mix ns k)
 else B
noncomputable def FOk(N K:Nat):List Fr->Prop
 |[]=>True
 |f ::fs=>f.i<N /\ f.items.length<=K /\ (fs≠[]->1<=f.i) /\ FOk N K fs
theorem FOk.mono{N K N' K':Nat}(h1:N<=N')(h2:K<=K'):∀{fs:List Fr},FOk N K fs->FOk N' K' fs
 |[],_=>trivial
 |_ ::_,h=>⟨Nat.lt_of_lt_of_le h.1 h1,Nat.le_trans h.2.1 h2,h.2.2.1,FOk.mono h1 h2 h.2.2.2⟩
theorem FOk.ky{N K:Nat}(nm:List Int)(v:PV){fs:List Fr}(h:FOk N K fs):FOk N (K+1) (ky nm v fs):=by
 cases fs with
 |nil=>trivial
 |cons g gs=>exact⟨h.1,by simp;exact h.2.1,h.2.2.1,FOk.mono (Nat.le_refl _) (Nat.le_succ _) h.2.2.2⟩
structure Bok(B:Bd)(k:Nat):Prop where
 row:B.row.length<=400*k
 nodes:B.nodes.length<=2*k
 frs:FOk B.nodes.length k B.frs
 dep:B.frs.length<=k
theorem vf(nm:List Int)(v:PV)(fs:List Fr):(ky nm v fs).length=fs.length:=by cases fs<;>simp[ky]
theorem lT(ns:List Int)(B:Bd)(n:Int):(bZ ns B n).length=B.nodes.length+(if inF B.frs then 1 else 0):=by
 unfold bZ;cases inF B.frs<;>simp
theorem Bok.close{B:Bd}{k:Nat}(h:Bok B k)(ws:List Int)(hw:ws.length<=3):Bok (Bd.close { B with row:=B.row++ws }) (k+1):=by
 have h1:=h.row;have h2:=h.nodes;have h3:=h.frs;have h4:=h.dep;unfold Bd.close
 cases e:B.frs with
 |nil=>rw[e]at h3 h4;exact⟨by simp;omega,by simp;omega,by simp[e];trivial,by simp[e]⟩
 | cons f fs=>
   rw[e]at h3 h4;simp only[List.length_cons]at h4
   refine⟨by simp;omega,?_,?_,?_⟩
   . simp only;split<;>simp<;>omega
   . have:FOk B.nodes.length (k+1) (ky f.nm (.tup [kS f.k,.tup f.items]) fs):=FOk.ky _ _ h3.2.2.2
     simp only;split<;>simpa using this
   . simp only[vf];omega
theorem Bok.opn{B:Bd}{k:Nat}(h:Bok B k)(ns:List Int)(n:Int):Bok (B.opn ns n) (k+1):=by
 have h1:=h.row;have h2:=h.nodes;have h3:=h.frs;have h4:=h.dep;have hb:=qc ns B n;have hl:=lT ns B n;unfold Bd.opn
 refine⟨by simp;omega,?_,?_,by simp;omega⟩
 . simp only[List.length_append,List.length_singleton]
   split at hl<;>omega
 . simp only[List.length_append,List.length_singleton]
   refine⟨by simp,by simp,?_,FOk.mono (by omega) (by omega) h3⟩
   intro hf
   simp only
   cases e:B.frs with
   |nil=>exact absurd e hf
   |cons g gs=>rw[e]at h3;have:=h3.1;omega
theorem Bok.leaf{B:Bd}{k:Nat}(h:Bok B k)(ns:List Int)(n:Int):Bok (B.leaf ns n) (k+1):=by
 have h1:=h.row;have h2:=h.nodes;have h3:=h.frs;have h4:=h.dep;have hb:=qc ns B n;have hf:=Cr ns n;have hl:=lT ns B n
 have hN:(B.leaf ns n).nodes.length=(bZ ns B n).length+1:=by unfold Bd.leaf;simp only;split<;>simp
 refine⟨by unfold Bd.leaf;simp;omega,by rw[hN];split at hl<;>omega,?_,by unfold Bd.leaf;simp only[vf];omega⟩
 rw[hN];exact FOk.mono (by omega) (Nat.le_refl _) (FOk.ky _ _ h3)
theorem Bok.mono{B:Bd}{k k':Nat}(h:Bok B k)(hk:k<=k'):Bok B k':=
 ⟨by have:=h.row;omega,by have:=h.nodes;omega,FOk.mono (Nat.le_refl _) hk h.frs,by have:=h.dep;omega⟩
theorem Bok.step{B:Bd}{k:Nat}(h:Bok B k)(ns:List Int):Bok (B.step ns k) (k+1):=by
 unfold Bd.step;split
 . exact h.close _ (gv _)
 . split
   . split
     . exact h.opn ns _
     . exact h.leaf ns _
   . exact h.mono (by omega)
theorem rQ(g:Nd->Nd):∀(nodes:List Nd) (i:Nat) (d:Nd),nodes[i]?=some d->(nodes.map Nd.o).set i (g d).o=(nodes.modify i g).map Nd.o
 |[],i,d,h=>by simp at h
 |x ::xs,0,d,h=>by simp at h;subst h;simp
 | x ::xs,i+1,d,h=>by
   simp at h;simp[rQ g xs i d h]
theorem AJ{nodes:List Nd}{i:Nat}(h:i<nodes.length):∃ d,nodes[i]?=some d:=⟨nodes[i],by simp[h]⟩
theorem Ce{nodes:List Nd}{i:Nat}{d:Nd}(h:nodes[i]?=some d):(nodes.map Nd.o)[i]?=some (ndO (.str d.s) d.a d.b d.c):=by
 rw[List.getElem?_map,h];rfl
theorem G1(B:Bd)(k:Nat)(h:Bok B k)(hk:k<=100)(hf:B.frs≠[]):
  cS [.tr true (eB B.row),.tr true (lA B.nodes),.tr true (j3 B.frs)]=.ok B.close.val [some (eB B.close.row),some (lA B.close.nodes),some (j3 B.close.frs)]:=by
 have h1:=h.row;have h2:=h.nodes;have h3:=h.frs;unfold Bd.close
 cases e:B.frs with
 |nil=>exact absurd e hf
 | cons f fs=>
   rw[e]at h3;obtain⟨d,hd⟩:=AJ h3.1;have hit:=h3.2.1
   cases e2:fs with
   | nil=>
     have:=Bm B.row (B.nodes.map Nd.o) f.k f.items f.i f.nm (.str d.s) d.a d.b d.c (Ce hd) (by omega) (by rw[List.length_map];omega) (by omega);refine Eq.trans this ?_;have hs:=rQ (fun d=>{ d with b:=B.row.length+1,c:=B.nodes.length }) B.nodes f.i d hd;simp only[inF,ky,j3,lA,List.length_map,Bool.false_eq_true,if_false,<- hs];rfl
   | cons g gs=>
     rw[e2]at h3;have h1i:=h3.2.2.1 (by simp)
     have hit':=h3.2.2.2.2.1
     obtain⟨d2,hd2⟩:=AJ (nodes:=B.nodes) (i:=f.i - 1) (by have:=h3.1;omega);have:=Bl B.row (B.nodes.map Nd.o) (gs.reverse.map Fr.o) f.k g.k f.items g.items f.i g.i f.nm g.nm (.str d.s) (.str d2.s) d.a d.b d.c d2.a d2.b d2.c (Ce hd) (by omega) (by rw[List.length_map];omega) (by omega) (by omega) (fun _=>⟨h1i,Ce hd2⟩);have hs:=rQ (fun d=>{ d with b:=B.row.length+1,c:=B.nodes.length }) B.nodes f.i d hd
     have hd2':(B.nodes.modify f.i fun d=>{ d with b:=B.row.length+1,c:=B.nodes.length })[f.i - 1]?=some d2:=by
      rw[List.getElem?_modify,hd2];simp;intro z;omega
     have hs2:=rQ (fun d=>{ d with c:=B.nodes.length }) _ (f.i - 1) d2 hd2';rw[<- hs]at hs2;refine Eq.trans (congrArg cS ?_) (Eq.trans this ?_)
     . simp[j3,lA,Fr.o]
     . cases hg:g.k
       . simp only[inF,ky,j3,lA,List.length_map,hg,Bool.not_false,Bool.false_eq_true,if_true,if_false,<- hs2];simp[Nd.o,Fr.o]
       . simp only[inF,ky,j3,lA,List.length_map,hg,Bool.not_true,Bool.false_eq_true,if_true,if_false,<- hs];simp[Nd.o,Fr.o]
noncomputable def bE(ns:List Int)(m:Int)(B:Bd)(a b c d e f:Option Sl):ag:=[some (.sh (.lst (ns.map .int))),some (.sh (.int m)),some (.tr false (eB B.row)),some (.tr false (lA B.nodes)),some (.tr false (j3 B.frs)),some (.sh B.val),a,b,c,d,e,f]
theorem vN(ns:List Int)(m:Int)(B:Bd)(k:Nat)(h:Bok B k)(hk:k<=100)(hf:B.frs≠[])(a b c d e f:Option Sl):
  hX 5 (iS cS [.t 2 aI,.t 3 aI,.t 4 aI]) (bE ns m B a b c d e f)=.nx (bE ns m B.close a b c d e f):=by
 have e1:i0 [.t 2 aI,.t 3 aI,.t 4 aI] (bE ns m B a b c d e f)=some [.tr true (eB B.row),.tr true (lA B.nodes),.tr true (j3 B.frs)]:=by
  simp[i0,kn,bE,aI,OV.get_nil]
 unfold hX iS;rw[e1];simp only[G1 B k h hk hf];simp[fj,jA,bE,aI,OV.kQ,nio]
theorem Bv(ns:List Int)(m:Int)(B:Bd)(k:Nat)(h:Bok B k)(hk:k<=100)(a:Option Sl)(n:Int)(c d e f:Option Sl):
  hX 8 (iS fH [.e (ao 0),.t 2 aI,.t 3 aI,.t 4 aI,.e (ao 7)]) (bE ns m B a (some (.sh (.int n))) c d e f) =
   .nx (bE ns m ⟨dv ns B n,bZ ns B n,B.frs,B.val⟩ a (some (.sh (.int n))) (some (.sh (.tup ((fB ns B n).map .int)))) d e f):=by
 have h1:=h.row;have h2:=h.nodes
 have e1:i0 [.e (ao 0),.t 2 aI,.t 3 aI,.t 4 aI,.e (ao 7)] (bE ns m B a (some (.sh (.int n))) c d e f)=some [.sh (.lst (ns.map .int)),.tr true (eB B.row),.tr true (lA B.nodes),.tr true (j3 B.frs),.sh (.int n)]:=by
  simp[i0,kn,bE,aI,OV.get_nil,m4]
 unfold hX iS;rw[e1];simp only[Hl ns B n (by omega) (by omega)];simp[fj,jA,bE,aI,OV.kQ,nio]
noncomputable abbrev bF(ns:List Int)(m:Int)(C B:Bd)(n:Int)(a e f:Option Sl):ag:=bE ns m C a (some (.sh (.int n))) (some (.sh (.tup ((fB ns B n).map .int)))) (some (.sh (.int (dv ns B n).length))) e f
noncomputable abbrev bG(ns:List Int)(m:Int)(B:Bd)(n:Int)(a e f:Option Sl):ag:=bF ns m ⟨dv ns B n,bZ ns B n,B.frs,B.val⟩ B n a e f
theorem Mx(k:Bool):kS k=.str (kN k):=by cases k<;>rfl
theorem C2(ns:List Int)(m:Int)(B:Bd)(k:Nat)(h:Bok B k)(hk:k<=100)(a:Option Sl)(n:Int)(e f:Option Sl):∃ e',
  (aG (bf 10 (mOp nk (bT (ak (mC (.str "row")) (ak (mC (.str "fields")) aJ))) (mOp cw (mOp dA (ao 7) (mC (.int 5))) (mC (.int 2)))))
  (aG (b0 2 aI (mD (gk (az (mOp gEq (ao 10) (mC (.str "row")))) (mC (.int 91)) (mC (.int 123)))))
  (aG (b0 4 aI (mDl (mDc (mD (ao 10)) (mDc (mD (bT aJ)) (mDc (mD (gd 3 aI)) (mDc (mD (ao 8)) mDn))))))
  (b0 3 aI (mD (bT (ak (ao 10) (ak (ao 9) (ak (mC (.int 0)) (ak (mC (.int 0)) aJ))))))))))
  (bG ns m B n a e f) =
  .nx (bF ns m (B.opn ns n) B n a e' f):=by
 have h1:=h.row;have h2:=h.nodes;have h4:=h.dep;have hb:=qc ns B n;have hl:=lT ns B n
 have hl':(bZ ns B n).length<=B.nodes.length+1:=by split at hl<;>omega
 refine⟨some (.sh (kS (n/5%2=0))),?_⟩
 have hz:n/5%2=0 \/ n/5%2=1:=by omega
 rw[aY (ρ':=bG ns m B n a (some (.sh (kS (n/5%2=0)))) f) (by
  rcases hz with z|z<;>simp[bf,bE,z,nk,atP,ixP,kS])]
 rw[aY (x8 (row:=dv ns B n) (b:=if n/5%2=0 then 91 else 123) rfl (by
  rcases hz with z|z<;>simp -implicitDefEqProofs [mD,gk,az,bE,z,kS,gEq,eqS,aH]) (by omega))]
 rw[aY (uU (ts:=B.frs.reverse.map Fr.o) (x:=Fr.o ⟨n/5%2=0,[],(bZ ns B n).length,fB ns B n⟩) rfl (by
  have:=yu (ρ:=(bG ns m B n a (some (.sh (kS (n/5%2=0)))) f).set 2 (some (.tr false (eB (dv ns B n++[if n/5%2=0 then 91 else 123]))))) (i:=3) (nds:=bZ ns B n) rfl;simp only[mDl,mDc,mD,this]
  simp[mDn,bE,Fr.o,frO,mDl]) (by simp;exact df (n:=B.frs.length+1) (by omega)))]
 rw[ya (nds:=bZ ns B n) (d:=⟨kN (n/5%2=0),(dv ns B n).length,0,0⟩) rfl (by
  simp[mD,bE,Nd.o,ndO,Mx]) (by omega)]
 simp[bE,Bd.opn,j3]
theorem N2(n:Int):(if n/5%2=0 then true else false)=decide (n/5%2=0):=by simp
theorem u4{ρ:ag}{i:Nat}{io:Bool}{g:Fr}{gs:List Fr}{x:PV}{md:ag->OD}(h:ρ[i]?=some (some (.tr io (j3 (g ::gs)))))(hd:md ρ=.ok (.sh x))(hl:g.items.length<1000):
  b0 i (pIx i (pIx i aI (mUn gn (mC (.int 1)))) (mC (.int 1))) md ρ=.nx (ρ.set i (some (.tr io (j3 ({ g with items:=g.items++[x] } ::gs))))):=by
 have hi:=wb 1 1 rfl (by omega) h;rw[lj]at h;rw[Co h hi (uR g gs) (xs:=g.items.map .sh) rfl hd (by rw[List.length_map];exact df (n:=g.items.length+1) (by omega))];rw[lj];simp[Fr.o,frO,List.set_append_right]
theorem Dm(ns:List Int)(m:Int)(B:Bd)(k:Nat)(h:Bok B k)(hk:k<=100)(a:Option Sl)(n:Int)(hn:0<=n)(e f:Option Sl):∃ f',
  (aG (bf 11 (br cu (ak (ao 0) (ak (ao 7) aJ))))
  (aG (dH 2 aI (mOp dw (ao 11) (mC (.int 1))))
  (aG (b0 3 aI (mD (bT (ak (mOp dw (ao 11) (mC (.int 0))) (ak (ao 9) (ak (gd 2 aI) (ak (mOp eX (gd 3 aI) (mC (.int 1))) aJ)))))))
  (aG (bf 5 (mOp dw (ao 11) (mC (.int 2))))
  (bb (da (du 4 aI) (az (mOp gEq (cF 4 (pIx 4 (pIx 4 aI (mUn gn (mC (.int 1)))) (mC (.int 0)))) (mC (.str "fields")))))
  (aG (pB 3 (pIx 3 aI (mUn gn (mC (.int 2)))) (mC (.int 3)) (mD (gd 3 aI)))
  (b0 4 (pIx 4 (pIx 4 aI (mUn gn (mC (.int 1)))) (mC (.int 1))) (mD (eU (ak (ao 8) (ak (ao 5) aJ))))))
  (bb (du 4 aI)
  (b0 4 (pIx 4 (pIx 4 aI (mUn gn (mC (.int 1)))) (mC (.int 1))) (mD (ao 5)))
  aO))))))
  (bG ns m B n a e f) =
  .nx (bF ns m (B.leaf ns n) B n a e f'):=by
 have h1:=h.row;have h2:=h.nodes;have h3:=h.frs;have h4:=h.dep;have hb:=qc ns B n;have hf:=Cr ns n;have hl:=lT ns B n
 have hl':(bZ ns B n).length<=B.nodes.length+1:=by split at hl<;>omega
 generalize hF:PV.tup [.str (lfK (ka ns n)),.lst ((lfb (ka ns n)).map .int),lfV ns n]=F
 refine⟨some (.sh F),?_⟩
 generalize hv:lfV ns n=v
 have hi0:atP [PV.str (lfK (ka ns n)),.lst ((lfb (ka ns n)).map .int),v] 0=some (PV.str (lfK (ka ns n))):=by simp[atP,ixP]
 rw[aY (ρ':=bG ns m B n a e (some (.sh F))) (by
  have:=GG ns n hn;rw[hF]at this
  simp[bf,bE,this])]
 rw[aY (mm (row:=dv ns B n) (ys:=lfb (ka ns n)) rfl (.inr (by simp[bE,<- hF,dw,atP,ixP])) (by omega))]
 rw[aY (ya (nds:=bZ ns B n) (d:=⟨lfK (ka ns n),(dv ns B n).length,(dv ns B n++lfb (ka ns n)).length,(bZ ns B n).length+1⟩) rfl (by
  have hx:=yu (ρ:=(bG ns m B n a e (some (.sh F))).set 2 (some (.tr false (eB (dv ns B n++lfb (ka ns n)))))) (i:=3) (nds:=bZ ns B n) rfl;have hy:=uZ (ρ:=(bG ns m B n a e (some (.sh F))).set 2 (some (.tr false (eB (dv ns B n++lfb (ka ns n)))))) (i:=2) (row:=dv ns B n++lfb (ka ns n)) rfl;simp only[mD,bT,ak,hx,hy,mOp]
  simp[bE,<- hF,dw,atP,ixP,Nd.o,ndO]) (by omega))]
 generalize hR:dv ns B n++lfb (ka ns n)=R;generalize hD:bZ ns B n++[⟨lfK (ka ns n),(dv ns B n).length,R.length,(bZ ns B n).length+1⟩]=D
 have hDl:D.length=(bZ ns B n).length+1:=by rw[<- hD];simp
 rw[aY (ρ':=bF ns m ⟨R,D,B.frs,v⟩ B n a e (some (.sh F))) (by
  simp[bf,bE,<- hF,dw,atP,ixP,hv])]
 unfold bb;rw[DM (fs:=B.frs) rfl];unfold Bd.leaf;rw[hR];simp only[hD,hv]
 cases hg:B.frs with
 | nil=>
   have:=qD (ρ:=bF ns m ⟨R,D,[],v⟩ B n a e (some (.sh F))) (i:=4) (fs:=[]) rfl;simp[inF,ky,this,aO]
 | cons g gs=>
   rw[hg]at h3;have hit:=h3.2.1;have ht:=qD (ρ:=bF ns m ⟨R,D,g ::gs,v⟩ B n a e (some (.sh F))) (i:=4) (fs:=g ::gs) rfl
   cases hgk:g.k with
   | true=>
     have hp:=u4 (ρ:=bF ns m ⟨R,D,g ::gs,v⟩ B n a e (some (.sh F))) (i:=4) (g:=g) (gs:=gs) (x:=v) (md:=mD (ao 5)) rfl (by simp[mD,bE]) (by omega);simp[inF,ky,ht,hgk,hp];simp[bE]
   | false=>
     have h2l:2<=D.length:=by
      have hq:inF B.frs=true:=by rw[hg];simp[inF,hgk]
      rw[hq]at hl;simp at hl;omega
     obtain⟨d2,hd2⟩:=AJ (nodes:=D) (i:=D.length - 2) (by omega);have hs:=rQ (fun d=>{ d with c:=D.length }) D (D.length - 2) d2 hd2
     have hput:=uN (ρ:=bF ns m ⟨R,D,g ::gs,v⟩ B n a e (some (.sh F))) (i:=3) (io:=false) (ts:=D.map Nd.o) (j:=D.length - 2) (j2:=3) (mk:=mC (.int 3)) (md:=mD (gd 3 aI)) (x:=.sh (.int D.length)) (mp:=pIx 3 aI (mUn gn (mC (.int 2)))) rfl
      (kY (i:=3) (ts:=D.map Nd.o) (bK (s:=.tr false (lA D)) rfl rfl) (r:=.sh (.int (-2))) (k:=-2) (by simp) rfl (by rw[List.length_map];unfold ixP;rw[if_neg (by omega),if_pos (by omega)];congr 1;omega)) (Ce hd2) rfl rfl rfl (by unfold mD;rw[yu (nds:=D) rfl])
     have e3:(D.map Nd.o).set (D.length - 2) (.ol ([.sh (.str d2.s),.sh (.int d2.a),.sh (.int d2.b),.sh (.int d2.c)].set 3 (.sh (.int D.length))))=(D.modify (D.length - 2) fun d=>{ d with c:=D.length }).map Nd.o:=hs
     rw[e3]at hput;have hp:=u4 (ρ:=bF ns m ⟨R,D.modify (D.length - 2) fun d=>{ d with c:=D.length },g ::gs,v⟩ B n a e (some (.sh F))) (i:=4) (g:=g) (gs:=gs) (x:=.tup [.tup ((fB ns B n).map .int),v]) (md:=mD (eU (ak (ao 8) (ak (ao 5) aJ)))) rfl (by simp[mD,bE]) (by omega)
     have:inF (g ::gs)=true:=by simp[inF,hgk]
     rw[this];refine Eq.trans (aY hput) ?_;refine Eq.trans hp ?_;simp[ky,hgk,bE]
theorem Kf(ns:List Int)(m:Int)(B:Bd)(k:Nat)(h:Bok B k)(hk:k<=90)(b c d e f:Option Sl):∃ b' c' d' e' f',
  iq (bE ns m B (some (.sh (.int k))) b c d e f)=.nx (bE ns m (B.step ns k) (some (.sh (.int k))) b' c' d' e' f'):=by
 have hm:0<=PG.mix ns k:=(Bj ns k).1
 have h1:=h.row;unfold iq;rw[aY (ρ':=bE ns m B (some (.sh (.int k))) (some (.sh (.int (PG.mix ns k)))) c d e f) (by simp[bf,bE,dJ])];unfold Bd.step
 generalize PG.mix ns k=n at hm ⊢
 have c1:da (du 4 aI) (az (mOp gEq (mOp cw (ao 7) (mC (.int 5))) (mC (.int 1)))) (bE ns m B (some (.sh (.int k))) (some (.sh (.int n))) c d e f)=.ok (decide (B.frs.isEmpty=false /\ n%5=1)):=by
  have:=qD (ρ:=bE ns m B (some (.sh (.int k))) (some (.sh (.int n))) c d e f) (i:=4) (fs:=B.frs) rfl
  unfold bE at this ⊢
  cases hf:B.frs.isEmpty<;>simp[da,this,hf,az]
 unfold bb;rw[c1]
 by_cases hc1:B.frs.isEmpty=false /\ n%5=1
 . rw[if_pos hc1,decide_eq_true hc1]
   refine⟨some (.sh (.int n)),c,d,e,f,Eq.trans (aY (ρ':=bE ns m { B with row:=B.row++lwh (n/3) } (some (.sh (.int k))) (some (.sh (.int n))) c d e f) ?_) ?_⟩
   . exact mm (row:=B.row) rfl (.inl (by simp[bE,dS])) (by have:=gv (n/3);omega)
   . refine vN ns m { B with row:=B.row++lwh (n/3) } (k+1) ⟨?_,?_,?_,?_⟩ (by omega) ?_ _ _ _ _ _ _
     . have:=gv (n/3);simp;omega
     . have:=h.nodes;simp;omega
     . exact FOk.mono (Nat.le_refl _) (Nat.le_succ _) h.frs
     . have:=h.dep;simp;omega
     . simp only;intro z;rw[z]at hc1;exact absurd hc1.1 (by simp)
 . rw[if_neg hc1,decide_eq_false hc1]
   have c2:kX (du 4 aI) (az (mOp gEq (ao 6) (mC (.int 0)))) (bE ns m B (some (.sh (.int k))) (some (.sh (.int n))) c d e f)=.ok (decide (B.frs.isEmpty=false \/ k=0)):=by
    have:=qD (ρ:=bE ns m B (some (.sh (.int k))) (some (.sh (.int n))) c d e f) (i:=4) (fs:=B.frs) rfl
    unfold bE at this ⊢
    cases hf:B.frs.isEmpty<;>simp[kX,this,hf,az]
   show ∃ b' c' d' e' f',OT.cW _ _ _=_
   rw[c2]
   by_cases hc2:B.frs.isEmpty=false \/ k=0
   . rw[if_pos hc2,decide_eq_true hc2];have hb:=Bv ns m B k h (by omega) (some (.sh (.int k))) n c d e f
     have hs9:bf 9 (gd 2 aI) (bE ns m ⟨dv ns B n,bZ ns B n,B.frs,B.val⟩ (some (.sh (.int k))) (some (.sh (.int n))) (some (.sh (.tup ((fB ns B n).map .int)))) d e f)=.nx (bE ns m ⟨dv ns B n,bZ ns B n,B.frs,B.val⟩ (some (.sh (.int k))) (some (.sh (.int n))) (some (.sh (.tup ((fB ns B n).map .int)))) (some (.sh (.int (dv ns B n).length))) e f):=by
      unfold bf;rw[uZ (row:=dv ns B n) rfl];simp[bE]
     have c3:kX (az (mOp gGt (mOp cw (ao 7) (mC (.int 5))) (mC (.int 2)))) (da (az (mOp gEq (ao 6) (mC (.int 0)))) (az (mOp gGt (mOp cw (ao 7) (mC (.int 9))) (mC (.int 0))))) (bE ns m ⟨dv ns B n,bZ ns B n,B.frs,B.val⟩ (some (.sh (.int k))) (some (.sh (.int n))) (some (.sh (.tup ((fB ns B n).map .int)))) (some (.sh (.int (dv ns B n).length))) e f)=.ok (decide (n%5>2 \/ (k=0 /\ n%9>0))):=by
      by_cases h5:2<n%5
      . simp[kX,da,az,bE,h5]
      . by_cases h0:k=0
        . by_cases h9:0<n%9<;>simp[kX,da,az,bE,h5,h0,h9]
        . simp[kX,da,az,bE,h5,h0]
     by_cases hc3:n%5>2 \/ (k=0 /\ n%9>0)
     . rw[if_pos hc3];obtain⟨e',he⟩:=C2 ns m B k h (by omega) (some (.sh (.int k))) n e f
       refine⟨some (.sh (.int n)),some (.sh (.tup ((fB ns B n).map .int))),some (.sh (.int (dv ns B n).length)),e',f,Eq.trans (aY hb) (Eq.trans (aY hs9) ?_)⟩
       rw[c3,decide_eq_true hc3];exact he
     . rw[if_neg hc3];obtain⟨f',he⟩:=Dm ns m B k h (by omega) (some (.sh (.int k))) n hm e f
       refine⟨some (.sh (.int n)),some (.sh (.tup ((fB ns B n).map .int))),some (.sh (.int (dv ns B n).length)),e,f',Eq.trans (aY hb) (Eq.trans (aY hs9) ?_)⟩
       rw[c3,decide_eq_false hc3];exact he
   . rw[if_neg hc2,decide_eq_false hc2]
     exact⟨_,_,_,_,_,rfl⟩
noncomputable def bld(ns:List Int)(B:Bd)(i:Nat):Nat->Bd
 |0=>B
 |j+1=>bld ns (B.step ns i) (i+1) j
theorem BC(ns:List Int):∀(j i:Nat) (B:Bd),Bok B i->Bok (bld ns B i j) (i+j)
 |0,i,B,h=>h
 | j+1,i,B,h=>by
   have:=BC ns j (i+1) _ (h.step ns);rw[show i+(j+1)=i+1+j by omega];exact this
theorem vF(ns:List Int)(m:Int):∀(j i:Nat) (B:Bd) (a b c d e f:Option Sl),Bok B i->i+j<=90->∃ a' b' c' d' e' f',
  gR 6 iq ((List.range' i j).map fun k:Nat=>.int k) (bE ns m B a b c d e f)=.nx (bE ns m (bld ns B i j) a' b' c' d' e' f')
 |0,i,B,a,b,c,d,e,f,_,_=>⟨_,_,_,_,_,_,rfl⟩
 | j+1,i,B,a,b,c,d,e,f,h,hij=>by
   obtain⟨b',c',d',e',f',hs⟩:=Kf ns m B i h (by omega) b c d e f;obtain⟨a2,b2,c2,d2,e2,f2,hl⟩:=vF ns m j (i+1) (B.step ns i) (some (.sh (.int i))) b' c' d' e' f' (h.step ns) (by omega)
   refine⟨a2,b2,c2,d2,e2,f2,?_⟩
   rw[List.range'_succ,List.map_cons,jM];rw[show(bE ns m B a b c d e f).set 6 (some (.sh (.int i)))=bE ns m B (some (.sh (.int i))) b c d e f from rfl,hs,nG];exact hl
noncomputable def cls(B:Bd):Nat->Bd
 |0=>B
 |j+1=>cls B.close j
theorem xl(B:Bd):B.close.frs.length=B.frs.length - 1:=by
 unfold Bd.close
 cases h:B.frs with
 |nil=>simp[h]
 |cons f fs=>simp[vf]
theorem uh(ns:List Int)(m:Int):∀(j:Nat) (B:Bd) (k:Nat) (a b c d e f:Option Sl) (F:Nat),Bok B k->k+j<=100->B.frs.length=j->j<F ->
  fV iw jV F (bE ns m B a b c d e f)=.nx (bE ns m (cls B j) a b c d e f)
 | 0,B,k,a,b,c,d,e,f,F,h,hk,hj,hF=>by
   obtain⟨F,rfl⟩:∃ G,F=G+1:=⟨F - 1,by omega⟩
   have ht:=qD (ρ:=bE ns m B a b c d e f) (i:=4) (fs:=B.frs) rfl
   have:B.frs=[]:=List.length_eq_zero_iff.mp hj
   unfold fV iw;rw[ht,this];rfl
 | j+1,B,k,a,b,c,d,e,f,F,h,hk,hj,hF=>by
   obtain⟨F,rfl⟩:∃ G,F=G+1:=⟨F - 1,by omega⟩
   have ht:=qD (ρ:=bE ns m B a b c d e f) (i:=4) (fs:=B.frs) rfl
   have hne:B.frs≠[]:=by intro z;rw[z]at hj;simp at hj
   have hcl:=vN ns m B k h (by omega) hne a b c d e f;have hb:=h.close [] (by simp);rw[show({ B with row:=B.row++[] }:Bd)=B by cases B;simp]at hb;unfold fV;rw[show iw=du 4 aI from rfl,ht]
   have he:B.frs.isEmpty=false:=by cases q:B.frs with|nil=>exact absurd q hne|cons _ _=>rfl
   rw[he];show OS.turn _ _=_;rw[show jV=hX 5 (iS cS [.t 2 aI,.t 3 aI,.t 4 aI]) from rfl,hcl,nG];exact uh ns m j B.close (k+1) a b c d e f F hb (by omega) (by rw[xl];omega) (by omega)
noncomputable def bd0:Bd:=⟨[],[],[],.non⟩
noncomputable def ndP(d:Nd):PV:=.tup [.str d.s,.int d.a,.int d.b,.int d.c]
noncomputable def qQ(ns:List Int)(m:Nat):Bd:=
 let B:=bld ns bd0 0 m
 let C:=cls B B.frs.length
 { C with row:=C.row++lwh (PG.mix ns 61) }
theorem Bo:∀(j:Nat) (B:Bd) (k:Nat),Bok B k->Bok (cls B j) (k+j)
 |0,B,k,h=>h
 | j+1,B,k,h=>by
   have hb:=h.close [] (by simp);rw[show({ B with row:=B.row++[] }:Bd)=B by cases B;simp]at hb;have:=Bo j B.close (k+1) hb;rw[show k+(j+1)=k+1+j by omega];exact this
theorem yC:Bok bd0 0:=⟨by simp[bd0],by simp[bd0],trivial,by simp[bd0]⟩
theorem Aq:∀ row:List Int,uG (row.map fun b=>.sh (.int b))=some (row.map .int)
 |[]=>by simp[uG]
 |b ::row=>by simp[uG,pvO,Aq row]
theorem Ag:∀ ds:List Nd,uG (ds.map Nd.o)=some (ds.map fun d=>.lst [.str d.s,.int d.a,.int d.b,.int d.c])
 |[]=>by simp[uG]
 |d ::ds=>by simp[uG,pvO,Ag ds,Nd.o,ndO]
theorem Gm{ρ:ag}{i:Nat}{me:ag->OE}{P:ag->OS}{j:Int}(h1:me ρ=.ok (.sh (.int j)))(hi:-4611686018427387904<=j /\ j<4611686018427387904):uy i me P ρ=gR i P (dE j.toNat) ρ:=by
 simp -implicitDefEqProofs [uy,h1,hi]
theorem C1(ns:List Int)(m:Nat)(hm:m<=20):∃ a b c d e f,uy 6 (ao 1) iq (bE ns m bd0 none none none none none none)=.nx (bE ns m (bld ns bd0 0 m) a b c d e f):=by
 obtain⟨a,b,c,d,e,f,hl⟩:=vF ns m m 0 bd0 none none none none none none yC (by omega)
 refine⟨a,b,c,d,e,f,?_⟩
 have hr:dE (Int.toNat (m:Int))=(List.range' 0 m).map fun k:Nat=>.int k:=by simp[dE,List.range_eq_range']
 have h1:ao 1 (bE ns m bd0 none none none none none none)=.ok (.sh (.int m)):=by simp[bE]
 rw[Gm h1 (by omega),hr];exact hl
theorem CQ(ns:List Int)(m:Int)(C:Bd)(hC:C.nodes.length<=1000)(hR:C.row.length<=100000)(a b c d e f:Option Sl):
  ∃ ρ,mU (bE ns m C a b c d e f)=.rt ρ (.sh (.tup [.lst ((C.row++lwh (PG.mix ns 61)).map .int),.lst (C.nodes.map ndP),C.val])):=by
 have e3:dH 2 aI (br cz (ak (br eK (ak (ao 0) (ak (mC (.int 61)) aJ))) aJ)) (bE ns m C a b c d e f)=.nx (bE ns m { C with row:=C.row++lwh (PG.mix ns 61) } a b c d e f):=
  mm (row:=C.row) rfl (.inl (by simp[bE,dJ,dS])) (by have:=gv (PG.mix ns 61);omega)
 refine⟨((bE ns m { C with row:=C.row++lwh (PG.mix ns 61) } a b c d e f).set 3 (some (.sh (.lst (C.nodes.map fun d=>.lst [.str d.s,.int d.a,.int d.b,.int d.c]))))).set 2 (some (.sh (.lst ((C.row++lwh (PG.mix ns 61)).map .int)))),?_⟩
 unfold mU;rw[aY e3];unfold qJ lB
 have z1:nz 3 (bE ns m { C with row:=C.row++lwh (PG.mix ns 61) } a b c d e f)=(bE ns m { C with row:=C.row++lwh (PG.mix ns 61) } a b c d e f).set 3 (some (.sh (.lst (C.nodes.map fun d=>.lst [.str d.s,.int d.a,.int d.b,.int d.c])))):=by
  simp[nz,bE,lA,pvO,Ag]
 have z2:nz 2 ((bE ns m { C with row:=C.row++lwh (PG.mix ns 61) } a b c d e f).set 3 (some (.sh (.lst (C.nodes.map fun d=>.lst [.str d.s,.int d.a,.int d.b,.int d.c])))))=((bE ns m { C with row:=C.row++lwh (PG.mix ns 61) } a b c d e f).set 3 (some (.sh (.lst (C.nodes.map fun d=>.lst [.str d.s,.int d.a,.int d.b,.int d.c]))))).set 2 (some (.sh (.lst ((C.row++lwh (PG.mix ns 61)).map .int)))):=by
  have:=Aq (C.row++lwh (PG.mix ns 61));unfold nz bE eB;simp only[List.set_cons_succ,List.set_cons_zero,List.getElem?_cons_succ,List.getElem?_cons_zero,pvO,this,Option.map_some]
 rw[z1,z2]
 have hel:dg mO [] (C.nodes.map fun d=>.lst [.str d.s,.int d.a,.int d.b,.int d.c])=.ok (C.nodes.map ndP):=
  jN _ fun d _=>by simp[mO,mG,ndP]
 simp[bE,hel,cX];exact df (by omega)
theorem HL(ns:List Int)(m:Nat)(hm:m<=20):gC [.lst (ns.map .int),.int m]=.ok (.sh (.tup [.lst ((qQ ns m).row.map .int),.lst ((qQ ns m).nodes.map ndP),(qQ ns m).val])):=by
 have hok:=BC ns m 0 bd0 yC;rw[Nat.zero_add]at hok;obtain⟨a,b,c,d,e,f,e2⟩:=C1 ns m hm;have hdep:=hok.dep;have hcok:=Bo (bld ns bd0 0 m).frs.length _ m hok;have hcr:=hcok.row;have hcn:=hcok.nodes
 have e1:oP [some (.sh (.lst (ns.map .int))),some (.sh (.int m)),none,none,none,none,none,none,none,none,none,none]=mP (bE ns m bd0 none none none none none none):=by
  unfold oP;rw[aY (ρ':=[some (.sh (.lst (ns.map .int))),some (.sh (.int m)),some (.tr false (eB [])),none,none,none,none,none,none,none,none,none]) (by simp[j6,mD,eB])];unfold qN;rw[aY (ρ':=[some (.sh (.lst (ns.map .int))),some (.sh (.int m)),some (.tr false (eB [])),some (.tr false (lA [])),none,none,none,none,none,none,none,none]) (by simp[j6,mD,lA])];unfold qK;rw[aY (ρ':=[some (.sh (.lst (ns.map .int))),some (.sh (.int m)),some (.tr false (eB [])),some (.tr false (lA [])),some (.tr false (j3 [])),none,none,none,none,none,none,none]) (by simp[j6,mD,j3])];unfold qL;rw[aY (ρ':=bE ns m bd0 none none none none none none) (by simp[bf,bE,bd0])]
 obtain⟨ρ,e4⟩:=CQ ns m _ (Nat.le_trans hcn (by omega)) (Nat.le_trans hcr (by omega)) a b c d e f
 have hw:∀ F,(bld ns bd0 0 m).frs.length<F->fV iw jV F (bE ns m (bld ns bd0 0 m) a b c d e f)=.nx (bE ns m (cls (bld ns bd0 0 m) (bld ns bd0 0 m).frs.length) a b c d e f):=fun F hF=>uh ns m _ (bld ns bd0 0 m) m a b c d e f F hok (by omega) rfl hF
 unfold gC fnP;rw[if_pos (show List.length [PV.lst (ns.map .int),.int m]=2 from rfl),show kB 12 [PV.lst (ns.map .int),.int m]=[some (.sh (.lst (ns.map .int))),some (.sh (.int m)),none,none,none,none,none,none,none,none,none,none] from rfl,e1];unfold mP;rw[aY e2]
 have hF:(bld ns bd0 0 m).frs.length<fuel:=by unfold fuel;omega
 unfold qR;rw[aY (hw fuel hF),e4];rfl
noncomputable def Nd.t(d:Nd):Tr:=⟨d.s,d.a,d.b⟩
noncomputable def kis(fs:List Fr):List (Bool×Nat):=fs.map fun f=>(f.k,f.i)
noncomputable def phs:List Fr->Ph
 |f ::_=>if f.items.isEmpty then .emp else .aft
 |[]=>.aft
noncomputable def PcB(B:Bd):Prop:=Pc B.row (B.nodes.map Nd.t) (kis B.frs) (phs B.frs)
theorem A0(f:Nd->Nd)(hf:∀ d,(f d).t=d.t):∀(l:List Nd) (i:Nat),(l.modify i f).map Nd.t=l.map Nd.t
 |[],i=>by cases i<;>rfl
 |d ::l,0=>by simp[hf]
 |d ::l,i+1=>by simp[A0 f hf l i]
theorem E4(f:Nd->Nd)(g:Tr->Tr)(hf:∀ d,(f d).t=g d.t):∀(l:List Nd) (i:Nat),(l.modify i f).map Nd.t=(l.map Nd.t).modify i g
 |[],i=>by cases i<;>rfl
 |d ::l,0=>by simp[hf]
 |d ::l,i+1=>by simp[E4 f g hf l i]
theorem BQ(nm:List Int)(v:PV)(fs:List Fr):kis (ky nm v fs)=kis fs /\ phs (ky nm v fs)=.aft:=by
 cases fs with
 |nil=>exact⟨rfl,rfl⟩
 |cons g gs=>exact⟨rfl,by simp[ky,phs]⟩
theorem LU{ns:List Int}{B:Bd}{n:Int}(h:PcB B)(hne:B.frs≠[]):∃ p,Pc (dv ns B n) ((bZ ns B n).map Nd.t) (kis B.frs) p /\ Vl p (kis B.frs):=by
 unfold PcB at h;unfold dv bZ jP u3
 cases e:B.frs with
 |nil=>exact absurd e hne
 | cons f fs=>
   rw[e]at h
   have nm:∀(row:List Int) (p:Ph),f.k=false->Pc row (B.nodes.map Nd.t) (kis (f ::fs)) p->(p=.nam \/ p=.emp)->Pc (row++PG.txt (lS ns n)++(lwh (n/19)++58 ::lwh (n/23))) ((B.nodes++[(⟨"name",row.length,(row++PG.txt (lS ns n)).length,0⟩:Nd)]).map Nd.t) (kis (f ::fs)) .val:=by
    intro row p hk hp hpp
    have h0:kis (f ::fs)=(false,f.i) ::kis fs:=by simp[kis,hk]
    rw[h0]at hp ⊢
    have:=((hp.name hpp (Ft _ (n/17) 0 (vz ns (n/13)).1)).nI (mj (n/19))).colon.nI (mj (n/23))
    simpa [lS,Nd.t]using this
   simp only[full,inF]
   by_cases hi:f.items.isEmpty=true
   . have hp:phs (f ::fs)=.emp:=by simp[phs,hi]
     rw[hp]at h;have h1:=h.nI (mj (n/3));simp only[hi,Bool.not_true,Bool.false_eq_true,if_false,List.append_nil]
     cases hk:f.k with
     | true=>
       simp only[Bool.not_true,Bool.false_eq_true,if_false]
       exact⟨_,h1,.inr ⟨rfl,f.i,kis fs,by simp[kis,hk]⟩⟩
     | false=>
       simp only[Bool.not_false,if_true]
       exact⟨_,nm _ _ hk h1 (.inr rfl),.inl rfl⟩
   . have hi':f.items.isEmpty=false:=by simpa using hi
     have hp:phs (f ::fs)=.aft:=by simp[phs,hi']
     rw[hp]at h;have h1:=h.nI (mj (n/3));simp only[hi',Bool.not_false,if_true]
     have h0:kis (f ::fs)=(f.k,f.i) ::kis fs:=rfl
     rw[h0]at h1;have h2:=h1.comma.nI (mj (n/11));rw[List.append_assoc,List.append_assoc,List.singleton_append,<- List.append_assoc,<- h0]at h2
     cases hk:f.k with
     | true=>
       rw[hk]at h2;simp only[Bool.not_true,Bool.false_eq_true,if_false]
       exact⟨_,h2,.inl rfl⟩
     | false=>
       rw[hk]at h2;simp only[Bool.not_false,if_true]
       exact⟨_,nm _ _ hk h2 (.inl rfl),.inl rfl⟩
theorem DY{ns:List Int}{n:Int}:Pc (dv ns bd0 n) ((bZ ns bd0 n).map Nd.t) (kis bd0.frs) .val:=by
 have:=Pc.start.nI (mj (n/3))
 simpa [dv,bZ,jP,bd0,inF,full,kis]using this
theorem E6{ns:List Int}{B:Bd}{n:Int}{p:Ph}(h:Pc (dv ns B n) ((bZ ns B n).map Nd.t) (kis B.frs) p)(hv:Vl p (kis B.frs))(hd:B.frs.length<=60):PcB (B.opn ns n):=by
 have:=h.opn (k:=decide (n/5%2=0)) hv (by simpa [kis]using hd);rw[List.length_map]at this;unfold PcB Bd.opn;rw[List.map_append];simp only[decide_eq_true_eq]at this;exact this
theorem B7{ns:List Int}{B:Bd}{n:Int}{p:Ph}(h:Pc (dv ns B n) ((bZ ns B n).map Nd.t) (kis B.frs) p)(hv:Vl p (kis B.frs)):PcB (B.leaf ns n):=by
 have:=h.leaf hv (HJ ns n);have hk:=BQ (fB ns B n) (lfV ns n) B.frs;unfold PcB Bd.leaf
 simp only
 rw[hk.1,hk.2]
 have e:∀(ds:List Nd) (c:Int),(if inF B.frs=true then ds.modify (ds.length - 2) (fun d=>{ d with c:=ds.length })else ds).map Nd.t=ds.map Nd.t:=fun ds c=>by
  split
  . exact A0 (fun d=>{ d with c:=ds.length }) (fun d=>rfl) _ _
  . rfl
 rw[e _ 0,List.map_append]
 have hn:lfK (ka ns n)=lfN (ka ns n):=by
  cases ka ns n with
  |wd w=>cases w<;>rfl
  |tx l=>rfl
  |nm m=>rfl
 rw[hn];exact this
theorem PcB.close{B:Bd}(h:PcB B)(hne:B.frs≠[]):PcB B.close:=by
 unfold PcB at h;unfold PcB Bd.close
 cases e:B.frs with
 |nil=>exact absurd e hne
 | cons f fs=>
   rw[e]at h;have hk:=BQ f.nm (.tup [kS f.k,.tup f.items]) fs
   simp only
   rw[hk.1,hk.2]
   have hp:phs (f ::fs)=.emp \/ phs (f ::fs)=.aft:=by
    cases hi:f.items.isEmpty with
    |true=>exact .inl (by simp only[phs,hi,if_true])
    |false=>exact .inr (by simp only[phs,hi,Bool.false_eq_true,if_false])
   have:=Pc.close (k:=f.k) (i:=f.i) (K:=kis fs) h hp
   have e2:∀(ds:List Nd) (i:Nat) (c:Int),(if inF fs=true then ds.modify i (fun d=>{ d with c:=c })else ds).map Nd.t=ds.map Nd.t:=fun ds i c=>by
    split
    . exact A0 (fun d=>{ d with c:=c }) (fun d=>rfl) _ _
    . rfl
   rw[e2,E4 (fun d=>{ d with b:=B.row.length+1,c:=B.nodes.length }) (fun d=>{ d with b:=B.row.length+1 }) (fun d=>rfl)];exact this
theorem PcB.step{ns:List Int}{B:Bd}{k:Nat}(h:PcB B)(hd:B.frs.length<=60)(h0:k≠0):PcB (B.step ns k):=by
 unfold Bd.step;split
 . rename_i hc
   have hne:B.frs≠[]:=by intro z;rw[z]at hc;simp at hc
   exact PcB.close (B:={ B with row:=B.row++lwh (PG.mix ns k/3) }) (Pc.nI h (mj _)) hne
 . split
   . rename_i hc
     have hne:B.frs≠[]:=by
      intro z;rw[z]at hc;simp at hc;exact h0 hc
     obtain⟨p,h1,h2⟩:=LU (ns:=ns) (n:=PG.mix ns k) h hne;split
     . exact E6 h1 h2 hd
     . exact B7 h1 h2
   . exact h
theorem Fp(ns:List Int):PcB (bd0.step ns 0):=by
 unfold Bd.step;rw[if_neg (by simp[bd0]),if_pos (.inr rfl)];split
 . exact E6 DY (.inl rfl) (by simp[bd0])
 . exact B7 DY (.inl rfl)
theorem FL(ns:List Int):∀(j i:Nat) (B:Bd),PcB B->Bok B i->i≠0->i+j<=50->PcB (bld ns B i j)
 |0,_,_,h,_,_,_=>h
 |j+1,i,B,h,hk,h0,hj=>FL ns j (i+1) _ (h.step (by have:=hk.dep;omega) h0) (hk.step ns) (by omega) (by omega)
theorem EJ:∀(j:Nat) (B:Bd),PcB B->B.frs.length=j->PcB (cls B j) /\ (cls B j).frs=[]
 |0,B,h,hj=>⟨h,List.length_eq_zero_iff.mp hj⟩
 | j+1,B,h,hj=>by
   have hne:B.frs≠[]:=by intro z;rw[z]at hj;simp at hj
   exact EJ j B.close (h.close hne) (by rw[xl];omega)
theorem Eg(ns:List Int)(m:Nat)(h1:1<=m)(hm:m<=20):Pc (qQ ns m).row ((qQ ns m).nodes.map Nd.t) [] .aft /\ (qQ ns m).row.length<=800*m+3 /\ (qQ ns m).nodes.length<=4*m:=by
 obtain⟨m,rfl⟩:∃ j,m=j+1:=⟨m - 1,by omega⟩
 have hok:=BC ns (m+1) 0 bd0 yC;have h:=FL ns m 1 (bd0.step ns 0) (Fp ns) (yC.step ns) (by omega) (by omega);have hc:=EJ (bld ns bd0 0 (m+1)).frs.length (bld ns bd0 0 (m+1)) h rfl;have hb:=Bo (bld ns bd0 0 (m+1)).frs.length _ _ hok;have hr:=hb.row;have hn:=hb.nodes;have hd:=hok.dep;have hl:=gv (PG.mix ns 61);have hw:=Pc.nI hc.1 (mj (PG.mix ns 61));rw[hc.2]at hw
 refine⟨hw,?_,?_⟩
 . show(_++lwh (PG.mix ns 61):List Int).length<=_
   rw[List.length_append];omega
 . show(cls _ _).nodes.length<=_
   omega
theorem n6(it:PG.It):iT [bt it]=.ok (.sh (.tup ((PG.short it).map .int))):=by
 cases it<;>rfl
theorem Am(A B C:Option Sl):∀(st:List PG.It) (ys:List Int) (o:Option Sl),ys.length+4*st.length<=1000000->∃ o',gR 4 vH (st.map bt) [A,B,C,some (.tr false (.ol (ys.map fun y=>.sh (.int y)))),o]=.nx [A,B,C,some (.tr false (.ol ((ys++PG.ends st).map fun y=>.sh (.int y)))),o']
 |[],ys,o,_=>⟨o,by simp[PG.ends]⟩
 | it ::st,ys,o,hl=>by
   simp only[List.length_cons]at hl
   have hs:(PG.short it).length<=4:=by cases it<;>simp[PG.short]
   obtain⟨o',ih⟩:=Am A B C st (ys++PG.short it) (some (.sh (bt it))) (by simp;omega)
   refine⟨o',?_⟩
   rw[List.map_cons,vT (ρ':=[A,B,C,some (.tr false (.ol ((ys++PG.short it).map fun y=>.sh (.int y)))),some (.sh (bt it))]) ?_,ih]
   . rw[dO,List.append_assoc]
   . show oQ 3 aI (br iT (ak (ao 4) aJ)) [A,B,C,some (.tr false (.ol (ys.map fun y=>.sh (.int y)))),some (.sh (bt it))]=_;rw[DZ (ts:=ys.map fun y=>.sh (.int y)) (ys:=(PG.short it).map .int) rfl (by simp[n6]) (by rw[List.length_map,List.length_map];exact df (by omega))];simp[Function.comp_def]
theorem m6(row:List Int)(hl:8*row.length+20<100000)(hw:(PG.tk st0 row).2=row.length):j5 [.lst (row.map .int)]=.ok (.sh (.lst ((PG.ends (PG.tk st0 row).1).map .int))):=by
 have ht:=EU st0 row (by simp[st0];omega);have hlen:=EO row st0
 have h3:st0.length=3:=rfl
 have h0:sA "Walk" cg [some (.sh (.lst (row.map .int))),none,none,none,none]=.ok (PG.wk st0):=by unfold sA;rw[D5]
 have h1:hX 2 (lp "Walk" "take" eG [.t 1 aI,.e (ao 0)]) [some (.sh (.lst (row.map .int))),some (.tr false (PG.wk st0)),none,none,none]=.nx [some (.sh (.lst (row.map .int))),some (.tr false (PG.wk (PG.tk st0 row).1)),some (.sh (.int (PG.tk st0 row).2)),none,none]:=by
  have ha:kn (.t 1 aI) [some (.sh (.lst (row.map .int))),some (.tr false (PG.wk st0)),none,none,none]=some (.tr true (PG.wk st0)):=by simp[kn,aI]
  have ha2:kn (.e (ao 0)) [some (.sh (.lst (row.map .int))),some (.tr false (PG.wk st0)),none,none,none]=some (.sh (.lst (row.map .int))):=by simp[kn]
  have hr:recv "Walk" "take" (some (.tr true (PG.wk st0)))=true:=by rw[yy];simp[recv,aH]
  unfold hX;simp only[lp,ha,hr,if_true,iS,i0,ha2,Option.bind_some,Option.map_some,ht];simp[fj,jA,aI,nio]
 generalize (PG.tk st0 row).1=st at *
 have hp:cF 1 (pFd 1 aI "coming" m8) [some (.sh (.lst (row.map .int))),some (.tr false (PG.wk st)),some (.sh (.int row.length)),some (.tr false (.ol [])),none]=.ok (.al (cm st)):=by
  unfold cF;rw[uW (s:=.tr false (PG.wk st)) rfl rfl];simp only[tJ]
 obtain⟨o',hloop⟩:=Am (some (.sh (.lst (row.map .int)))) (some (.tr false (PG.wk st))) (some (.sh (.int row.length))) st [] none (by simp;omega);unfold j5 fnP;rw[if_pos (show List.length [PV.lst (row.map .int)]=1 from rfl),show kB 5 [PV.lst (row.map .int)]=[some (.sh (.lst (row.map .int))),none,none,none,none] from rfl];unfold zj;rw[aY (ρ':=[some (.sh (.lst (row.map .int))),some (.tr false (PG.wk st0)),none,none,none]) (by unfold j6;rw[h0];rfl)];unfold ve;rw[aY h1];unfold vn;rw[hw,sk (by simp[az])];unfold vZ;rw[aY (ρ':=[some (.sh (.lst (row.map .int))),some (.tr false (PG.wk st)),some (.sh (.int row.length)),some (.tr false (.ol [])),none]) (by simp[j6,mD])];unfold vt
 rw[aY (ρ':=[some (.sh (.lst (row.map .int))),some (.tr false (PG.wk st)),some (.sh (.int row.length)),some (.tr false (.ol ((PG.ends st).map fun y=>.sh (.int y)))),o']) (by
  unfold mw DI;rw[hp]
  have e:(cm st).reverse=st.map bt:=by simp[cm]
  simp only[ng,RV.pv,CB,Nr];simp -implicitDefEqProofs [gn,e,zt]
  exact hloop)]
 have hv:pvO (.ol ((PG.ends st).map fun y=>.sh (.int y)))=some (.lst ((PG.ends st).map .int)):=by
  have:=GA ((PG.ends st).map .int);rw[List.map_map]at this;unfold pvO;exact congrArg (Option.map PV.lst) this
 unfold vX lB nz
 simp -implicitDefEqProofs only[List.getElem?_cons_succ,List.getElem?_cons_zero,hv]
 rfl
theorem yZ(P R:List Int):By ((P++R).map .int) none (some (P.length:Int))=P.map .int:=by
 have h1:wB ((P++R).map PV.int).length 0 none=0:=rfl
 have h2:wB ((P++R).map PV.int).length ((P++R).map PV.int).length (some (P.length:Int))=P.length:=by
  have:¬ ((P.length:Int)<0):=by omega
  simp[wB,this]
 unfold By;rw[h1,h2];simp
theorem rE{mc:ag->OT}{me:ag->OE}{ρ:ag}{α:Type}{g h:α->PV}(p:α->Bool):∀ l:List α,(∀ a∈l,mc (ρ++[some (.sh (g a))])=.ok (p a))->(∀ a∈l,me (ρ++[some (.sh (g a))])=.ok (.sh (h a)))->gf mc me ρ (l.map g)=.ok ((l.filter p).map h)
 |[],_,_=>rfl
 | a ::l,hc,he=>by
   have ih:=rE p l (fun a h=>hc a (List.mem_cons_of_mem _ h)) (fun a h=>he a (List.mem_cons_of_mem _ h));have h1:=hc a List.mem_cons_self;have h2:=he a List.mem_cons_self;rw[List.map_cons];unfold gf;rw[h1,h2]
   cases hp:p a with
   |false=>simp[hp,ih]
   |true=>simp[hp,ih,m4]
theorem GD{l:List Int}{b:Int}(h:l.getLast?=some b):atP (l.map PV.int) (-1)=some (.int b):=by
 have hne:l≠[]:=by intro z;rw[z]at h;cases h
 have hl:0<l.length:=List.length_pos_iff.mpr hne
 have h1:ixP (l.map PV.int).length (-1)=some (l.length - 1):=by
  unfold ixP;rw[if_neg (by omega),List.length_map,if_pos (by omega)]
  congr 1
  omega
 unfold atP;rw[h1];rw[List.getLast?_eq_getElem?]at h;simp[h]
noncomputable abbrev kE(ns row P:List Int)(V F:Option Sl)(t:Nat)(a6 a7 a8 a9 a10 a11:Option Sl):ag:=[some (.sh (.lst (ns.map .int))),V,some (.sh (.lst (row.map .int))),some (.sh (.int t)),some (.sh (.lst (P.map .int))),F,a6,a7,a8,a9,a10,a11]
noncomputable def hN(t:Nat)(d:Nd):Bool:=decide (d.a<t)&&decide ((t:Int)<d.b)
theorem Nc(d:Nd)(i:Int)(x:PV)(h:atP [.str d.s,.int d.a,.int d.b,.int d.c] i=some x):dw (ndP d) (.int i)=some (.sh x):=by simp[dw,ndP,h]
theorem nd0(d:Nd):dw (ndP d) (.int 0)=some (.sh (.str d.s)):=rfl
theorem nd1(d:Nd):dw (ndP d) (.int 1)=some (.sh (.int d.a)):=rfl
theorem nd2(d:Nd):dw (ndP d) (.int 2)=some (.sh (.int d.b)):=rfl
theorem BZ(t:Nat)(d:Nd)(i j:Nat)(ρ:ag)(h1:ρ[i]?=some (some (.sh (ndP d))))(h2:ρ[j]?=some (some (.sh (.int t)))):az (iJ gLt gLt (mOp dw (ao i) (mC (.int 1))) (ao j) (mOp dw (ao i) (mC (.int 2)))) ρ=.ok (hN t d):=by
 unfold hN
 by_cases e:d.a<t
 . simp -implicitDefEqProofs [az,iJ,h1,h2,nd1,nd2,e]
 . simp -implicitDefEqProofs [az,iJ,h1,h2,nd1,nd2,e]
theorem LW(ns row P:List Int)(V F:Option Sl)(t:Nat)(a9 a10 a11:Option Sl)(d:Nd)(s i:Int):uQ (kE ns row P V F t (some (.sh (.int s))) (some (.sh (.int i))) (some (.sh (ndP d))) a9 a10 a11)=.nx (kE ns row P V F t (some (.sh (.int (s+if hN t d&&isB d.s then 1 else 0)))) (some (.sh (.int (i+if hN t d && !isB d.s then 1 else 0)))) (some (.sh (ndP d))) a9 a10 a11):=by
 have hc:=BZ t d 8 3 (kE ns row P V F t (some (.sh (.int s))) (some (.sh (.int i))) (some (.sh (ndP d))) a9 a10 a11) rfl rfl
 have hb:az (mOp gIn (mOp dw (ao 8) (mC (.int 0))) (eU (ak (mC (.str "row")) (ak (mC (.str "fields")) aJ)))) (kE ns row P V F t (some (.sh (.int s))) (some (.sh (.int i))) (some (.sh (ndP d))) a9 a10 a11)=.ok (isB d.s):=by
  have hl:2<=lim:=df (by omega)
  have e1:decide ("row" = d.s)=decide (d.s = "row"):=decide_eq_decide.mpr eq_comm
  have e2:decide ("fields" = d.s)=decide (d.s = "fields"):=decide_eq_decide.mpr eq_comm
  simp -implicitDefEqProofs [az,nd0,gIn,n8,eT,kz,isB,aH,hl,e1,e2]
 unfold uQ
 cases hh:hN t d with
 | false=>
   rw[hh]at hc;rw[Bx hc,p6];simp
 | true=>
   rw[hh]at hc;rw[Fz hc]
   cases hq:isB d.s with
   |true=>rw[hq]at hb;rw[Fz hb];simp[bf]
   |false=>rw[hq]at hb;rw[Bx hb];simp[bf]
theorem Iv(ns row P:List Int)(V F:Option Sl)(t:Nat)(a9 a10 a11:Option Sl):∀(nds:List Nd) (s i:Int) (o:Option Sl),∃ o',gR 8 uQ (nds.map ndP) (kE ns row P V F t (some (.sh (.int s))) (some (.sh (.int i))) o a9 a10 a11)=.nx (kE ns row P V F t (some (.sh (.int (s+(nds.countP fun d=>hN t d&&isB d.s))))) (some (.sh (.int (i+(nds.countP fun d=>hN t d && !isB d.s))))) o' a9 a10 a11)
 |[],s,i,o=>⟨o,by simp⟩
 | d ::nds,s,i,o=>by
   obtain⟨o',ih⟩:=Iv ns row P V F t a9 a10 a11 nds _ _ (some (.sh (ndP d)))
   refine⟨o',?_⟩
   have ex:∀(q:Bool) (s:Int) (c:Nat),s+(if q=true then 1 else 0)+(c:Int)=s+((c+(if q=true then 1 else 0):Nat):Int):=fun q s c=>by cases q<;>simp<;>omega
   rw[List.map_cons,vT (LW ns row P V F t a9 a10 a11 d s i),ih,List.countP_cons,List.countP_cons,ex,ex]
noncomputable def tkN(t:Nat)(o:Option Nd)(d:Nd):Option Nd:=if isT d.s=true /\ d.b<=t /\ (match o with|none=>true|some y=>decide (y.b<d.b))=true then some d else o
noncomputable def tV:Option Nd->PV
 |none=>.non
 |some d=>ndP d
theorem MA(ns row P:List Int)(V F:Option Sl)(t:Nat)(a6 a7 a9 a10:Option Sl)(d:Nd)(o:Option Nd):u0 (kE ns row P V F t a6 a7 (some (.sh (ndP d))) a9 a10 (some (.sh (tV o))))=.nx (kE ns row P V F t a6 a7 (some (.sh (ndP d))) a9 a10 (some (.sh (tV (tkN t o d))))):=by
 have hb:az (mOp gIn (mOp dw (ao 8) (mC (.int 0))) (eU (ak (mC (.str "name")) (ak (mC (.str "text")) aJ)))) (kE ns row P V F t a6 a7 (some (.sh (ndP d))) a9 a10 (some (.sh (tV o))))=.ok (isT d.s):=by
  have hl:2<=lim:=df (by omega)
  have e1:decide ("name" = d.s)=decide (d.s = "name"):=decide_eq_decide.mpr eq_comm
  have e2:decide ("text" = d.s)=decide (d.s = "text"):=decide_eq_decide.mpr eq_comm
  simp -implicitDefEqProofs [az,nd0,gIn,n8,eT,kz,isT,aH,hl,e1,e2]
 have h2:az (mOp gLe (mOp dw (ao 8) (mC (.int 2))) (ao 3)) (kE ns row P V F t a6 a7 (some (.sh (ndP d))) a9 a10 (some (.sh (tV o))))=.ok (decide (d.b<=t)):=by
  simp -implicitDefEqProofs [az,nd2]
 have h3:kX (az (mOp se (ao 11) (mC .non))) (az (mOp gGt (mOp dw (ao 8) (mC (.int 2))) (mOp dw (ao 11) (mC (.int 2))))) (kE ns row P V F t a6 a7 (some (.sh (ndP d))) a9 a10 (some (.sh (tV o))))=.ok (match o with|none=>true|some y=>decide (y.b<d.b)):=by
  cases o with
  |none=>simp -implicitDefEqProofs [az,se,cC,tV]
  | some y=>
    have:cC (ndP y)=false:=rfl
    simp -implicitDefEqProofs [az,se,this,tV,nd2]
 unfold u0 tkN
 cases hq:isT d.s with
 | false=>
   rw[hq]at hb;rw[Bx (by unfold da;rw[hb];rfl),p6,if_neg (by simp)]
 | true=>
   rw[hq]at hb
   by_cases hx:d.b<=t
   . rw[decide_eq_true hx]at h2
     have hand:∀ b:Bool,kX (az (mOp se (ao 11) (mC .non))) (az (mOp gGt (mOp dw (ao 8) (mC (.int 2))) (mOp dw (ao 11) (mC (.int 2))))) (kE ns row P V F t a6 a7 (some (.sh (ndP d))) a9 a10 (some (.sh (tV o))))=.ok b->da (az (mOp gIn (mOp dw (ao 8) (mC (.int 0))) (eU (ak (mC (.str "name")) (ak (mC (.str "text")) aJ))))) (da (az (mOp gLe (mOp dw (ao 8) (mC (.int 2))) (ao 3))) (kX (az (mOp se (ao 11) (mC .non))) (az (mOp gGt (mOp dw (ao 8) (mC (.int 2))) (mOp dw (ao 11) (mC (.int 2))))))) (kE ns row P V F t a6 a7 (some (.sh (ndP d))) a9 a10 (some (.sh (tV o))))=.ok b:=fun b hh=>by
      unfold da;rw[hb,h2,hh];rfl
     cases o with
     |none=>rw[Fz (hand true h3),if_pos ⟨rfl,hx,rfl⟩];simp[bf,tV]
     | some y=>
       by_cases hy:y.b<d.b
       . simp only[decide_eq_true hy]at h3;rw[Fz (hand true h3),if_pos ⟨rfl,hx,decide_eq_true hy⟩];simp[bf,tV]
       . simp only[decide_eq_false hy]at h3;rw[Bx (hand false h3),if_neg (fun z=>hy (of_decide_eq_true z.2.2)),p6]
   . rw[decide_eq_false hx]at h2;rw[Bx (by unfold da;rw[hb,h2];rfl),p6,if_neg (fun z=>hx z.2.1)]
theorem Jb(ns row P:List Int)(V F:Option Sl)(t:Nat)(a6 a7 a9 a10:Option Sl):∀(nds:List Nd) (o:Option Nd) (x:Option Sl),∃ x',gR 8 u0 (nds.map ndP) (kE ns row P V F t a6 a7 x a9 a10 (some (.sh (tV o))))=.nx (kE ns row P V F t a6 a7 x' a9 a10 (some (.sh (tV (nds.foldl (tkN t) o)))))
 |[],o,x=>⟨x,rfl⟩
 | d ::nds,o,x=>by
   obtain⟨x',ih⟩:=Jb ns row P V F t a6 a7 a9 a10 nds (tkN t o d) (some (.sh (ndP d)))
   exact⟨x',by rw[List.map_cons,vT (MA ns row P V F t a6 a7 a9 a10 d o),ih];rfl⟩
theorem Gf(t:Nat):∀(nds:List Nd) (o:Option Nd),(nds.foldl (tkN t) o).map (fun d=>(d.s,d.b))=(PG.tl (nds.map Nd.t) t).foldl tkS (o.map fun d=>(d.s,d.b))
 |[],o=>rfl
 | d ::nds,o=>by
   have ih:=Gf t nds (tkN t o d);rw[List.foldl_cons,ih];unfold PG.tl;rw[List.map_cons,List.filterMap_cons]
   have e1:d.t.s=d.s:=rfl
   have e2:d.t.b=d.b:=rfl
   rw[e1,e2]
   by_cases hc:isT d.s=true /\ d.b<=t
   . rw[show(isT d.s&&decide (d.b<=(t:Int)))=true by simp[hc.1,hc.2]];simp only[if_true,List.foldl_cons]
     congr 1
     unfold tkN tkS
     cases o with
     |none=>rw[if_pos ⟨hc.1,hc.2,rfl⟩];rfl
     | some y=>
       by_cases hy:y.b<d.b
       . rw[if_pos ⟨hc.1,hc.2,decide_eq_true hy⟩];simp[hy]
       . rw[if_neg (fun z=>hy (of_decide_eq_true z.2.2))];simp[hy]
   . have hf:(isT d.s && decide (d.b <= (t:Int))) = false:=by
      cases hq:isT d.s with
      |false=>rfl
      |true=>have:¬ d.b<=t:=fun z=>hc ⟨hq,z⟩;simp[this]
     rw[hf];simp only[Bool.false_eq_true,if_false]
     congr 2
     unfold tkN;rw[if_neg (fun z=>hc ⟨z.1,z.2.1⟩)]
theorem zO(t:Nat):∀(nds:List Nd),(∀ d∈nds,d.b≠0)->PG.hs (nds.map Nd.t) t=(nds.filter (hN t)).map Nd.s
 |[],_=>rfl
 | d ::nds,h=>by
   have ih:=zO t nds fun x hx=>h x (List.mem_cons_of_mem _ hx)
   unfold PG.hs at ih ⊢
   rw[List.map_cons,List.filterMap_cons,ih]
   have h0:¬ d.t.b=0:=h d List.mem_cons_self
   have e:hld t d.t=hN t d:=by
    unfold hld hN;simp[h0];rfl
   rw[e]
   cases hh:hN t d<;>simp[hh,Nd.t]
theorem eql(xs ys:List Int):yK (.lst (xs.map .int)) (.lst (ys.map .int))=some (.sh (.bl (decide (xs=ys)))):=by
 simp[yK,A1]
theorem Ib(ns row P L:List Int)(V:Option Sl)(t:Nat)(a6 a7 a8:Option Sl)(b:Int)(o:Option Nd)(h:Option String)(p:List Int)(hp:Dl (some b) (o.map fun d=>(d.s,d.b)) h=some p)(hL:L.head?=h.map clo)(hne:L≠[])(hl:L.length<=1000):
  fin (vx (kE ns row P V (some (.sh (.lst ((p++L).map .int)))) t a6 a7 a8 (some (.sh (.int b))) (some (.ow (L.map .int))) (some (.sh (tV o)))))=.ok (.sh (.bl true)):=by
 generalize hρ:kE ns row P V (some (.sh (.lst ((p++L).map .int)))) t a6 a7 a8 (some (.sh (.int b))) (some (.ow (L.map .int))) (some (.sh (tV o)))=ρ
 have v9:ρ[9]?=some (some (.sh (.int b))):=by rw[<- hρ];rfl
 have v5:ρ[5]?=some (some (.sh (.lst ((p++L).map .int)))):=by rw[<- hρ];rfl
 have v10:ρ[10]?=some (some (.ow (L.map .int))):=by rw[<- hρ];rfl
 have v11:ρ[11]?=some (some (.sh (tV o))):=by rw[<- hρ];rfl
 have t9:∀ x:Int,az (mOp gEq (ao 9) (mC (.int x))) ρ=.ok (decide (b=x)):=fun x=>by simp[az,v9]
 have m5:ao 5 ρ=.ok (.sh (.lst ((p++L).map .int))):=by simp[v5]
 have m10:ao 10 ρ=.ok (.al (L.map .int)):=by simp[v10]
 have rtl:p=[]->aZ (mOp yK (ao 5) (ao 10)) ρ=.rt ρ (.sh (.bl true)):=fun hpp=>by
  unfold aZ mOp;rw[m5,m10];have:=eql (p++L) L;rw[hpp,List.nil_append]at this;simp -implicitDefEqProofs [RV.pv,hpp,this]
 have cat:∀(q:List Int) (ma:ag->OA),q.length<=4->ma ρ=.ok (q.map .int)->p=q->aZ (mOp yK (ao 5) (mOp iQ (bT ma) (ao 10))) ρ=.rt ρ (.sh (.bl true)):=fun q ma hq hm hpq=>by
  subst hpq
  have h1:p.length<=lim:=df (by omega)
  have h2:p.length+L.length<=lim:=df (by omega)
  have hx:=eql (p++L) (p++L);rw[decide_eq_true rfl,List.map_append]at hx;unfold aZ mOp bT;rw[m5,m10,hm];simp -implicitDefEqProofs [RV.pv,iQ,h1,h2,hx]
 unfold Dl at hp;simp only[Option.bind_some]at hp;unfold vx
 by_cases h34:b=34
 . rw[if_pos h34]at hp
   cases o with
   |none=>cases hp
   | some d=>
     simp only[Option.map_some,Option.some.injEq]at hp
     have ht:az (mOp gEq (mOp dw (ao 11) (mC (.int 0))) (mC (.str "name"))) ρ=.ok (decide (d.s = "name")):=by
      simp -implicitDefEqProofs [az,v11,tV,nd0,gEq,eqS,aH]
     have hc:∀ z:Bool,decide (d.s = "name")=z->da (az (mOp gEq (ao 9) (mC (.int 34)))) (az (mOp gEq (mOp dw (ao 11) (mC (.int 0))) (mC (.str "name")))) ρ=.ok z:=fun z hz=>by
      unfold da;rw[t9,decide_eq_true h34,ht,hz];rfl
     by_cases hn:d.s = "name"
     . rw[if_pos hn]at hp;exact ku (st (hc true (decide_eq_true hn)) (cat [58,48] _ (by simp) (by simp) hp.symm))
     . rw[if_neg hn]at hp;rw[sk (hc false (decide_eq_false hn))];unfold vC;rw[sk (by unfold da;rw[t9,decide_eq_false (by omega)];rfl)];unfold sW;rw[sk (by unfold kX;rw[t9,t9,decide_eq_false (by omega),decide_eq_false (by omega)];rfl)];exact ku (rtl hp.symm)
 . rw[if_neg h34]at hp;rw[sk (by unfold da;rw[t9,decide_eq_false h34];rfl)];unfold vC
   by_cases h44:b=44
   . rw[if_pos h44]at hp
     obtain⟨x,L',hx⟩:∃ x L',L=x ::L':=by cases L with|nil=>exact absurd rfl hne|cons x L'=>exact⟨x,L',rfl⟩
     have ht:az (mOp gEq (mOp nk (ao 10) (mC (.int 0))) (mC (.int 125))) ρ=.ok (decide (x=125)):=by
      have h0:L[0]?=some x:=by rw[hx];rfl
      simp -implicitDefEqProofs [az,v10,nk,h0]
     have hc:∀ z:Bool,decide (x=125)=z->da (az (mOp gEq (ao 9) (mC (.int 44)))) (az (mOp gEq (mOp nk (ao 10) (mC (.int 0))) (mC (.int 125)))) ρ=.ok z:=fun z hz=>by
      unfold da;rw[t9,decide_eq_true h44,ht,hz];rfl
     rw[hx]at hL
     have hxs:x=125↔h=some "fields":=by
      cases h with
      |none=>cases hL
      | some s=>
        simp only[List.head?_cons,Option.map_some,Option.some.injEq]at hL ⊢
        rw[hL];unfold clo
        by_cases hs:s = "fields" <;> simp[hs]
     by_cases h125:x=125
     . rw[if_pos (hxs.mp h125)]at hp;exact ku (st (hc true (decide_eq_true h125)) (cat [34,34,58,48] _ (by simp) (by simp) (Option.some.inj hp).symm))
     . rw[if_neg (fun z=>h125 (hxs.mpr z))]at hp;rw[sk (hc false (decide_eq_false h125))];unfold sW;exact ku (st (by unfold kX;rw[t9,decide_eq_true h44];rfl) (cat [48] _ (by simp) (by simp) (Option.some.inj hp).symm))
   . rw[if_neg h44]at hp;rw[sk (by unfold da;rw[t9,decide_eq_false h44];rfl)];unfold sW
     by_cases h58:b=58
     . rw[if_pos h58]at hp;exact ku (st (by unfold kX;rw[t9,t9,decide_eq_true h58,decide_eq_false h44];rfl) (cat [48] _ (by simp) (by simp) (Option.some.inj hp).symm))
     . rw[if_neg h58]at hp;rw[sk (by unfold kX;rw[t9,t9,decide_eq_false h44,decide_eq_false h58];rfl)];exact ku (rtl (Option.some.inj hp).symm)
theorem FF(ns row P R L:List Int)(nds:List Nd)(val:PV)(V:Option Sl)(hV:V=some (.sh (.tup [.lst (row.map .int),.lst (nds.map ndP),val])))(hr:row=P++R)(hlen:row.length<=9000)(hnl:nds.length<=900)(hb:∀ d∈nds,d.b≠0)(hc:PG.Cut row (nds.map Nd.t) P.length)(he:PG.ends (PG.tk st0 P).1=L)(a6 a7 a8:Option Sl):
  fin (xZ (kE ns row P V (some (.sh (.lst (L.map .int)))) P.length none none none none none none))=.ok (.sh (.bl true)):=by
 have v1:∀(F a6 a7 a8 a9 a10 a11:Option Sl),mOp dw (ao 1) (mC (.int 1)) (kE ns row P V F P.length a6 a7 a8 a9 a10 a11)=.ok (.sh (.lst (nds.map ndP))):=by
  intro F a6 a7 a8 a9 a10 a11;rw[hV];simp[dw,atP,ixP]
 unfold xZ;rw[aY (ρ':=kE ns row P V (some (.sh (.lst (L.map .int)))) P.length (some (.sh (.int 0))) none none none none none) (by simp[bf])];unfold BD;rw[aY (ρ':=kE ns row P V (some (.sh (.lst (L.map .int)))) P.length (some (.sh (.int 0))) (some (.sh (.int 0))) none none none none) (by simp[bf])];unfold B0;obtain⟨o',h1⟩:=Iv ns row P V (some (.sh (.lst (L.map .int)))) P.length none none none nds 0 0 none;rw[aY (by unfold mw;rw[v1];simp only[fu,Bz];exact h1)];unfold zA;generalize hS:nds.countP (fun d=>hN P.length d&&isB d.s)=S;generalize hI:nds.countP (fun d=>hN P.length d && !isB d.s)=I
 by_cases hq:0<I \/ S=0
 . refine ku (st ?_ rfl)
   rcases hq with z|z
   . have:(0:Int)<I:=by omega
     simp -implicitDefEqProofs [az,this];omega
   . subst z
     by_cases y:(0:Int)<I<;>simp -implicitDefEqProofs [az,y]
 have hI0:I=0:=by omega
 have hS0:¬ (S:Int)=0:=by omega
 rw[sk (by subst hI0;simp -implicitDefEqProofs [az,hS0];omega)]
 have hall:∀ h∈PG.hs (nds.map Nd.t) P.length,isB h=true:=by
  rw[zO _ _ hb];intro h hh;rw[List.mem_map]at hh;obtain⟨d,hd,rfl⟩:=hh;rw[List.mem_filter]at hd;rw[hI0,List.countP_eq_zero]at hI;have:=hI d hd.1;rw[hd.2]at this
  simpa using this
 have hne:PG.hs (nds.map Nd.t) P.length≠[]:=by
  rw[zO _ _ hb];intro z;rw[List.map_eq_nil_iff,List.filter_eq_nil_iff]at z
  have:S=0:=by
   rw[<- hS,List.countP_eq_zero];intro d hd;simp[z d hd]
  omega
 obtain⟨p,hp,hends⟩:=hc hall hne
 have hP:row.take P.length=P:=by rw[hr];simp
 rw[hP]at hp hends;rw[he]at hends
 obtain⟨b,hbb⟩:∃ b,nwB P=some b:=by
  cases q:nwB P with
  |none=>rw[q]at hp;cases hp
  |some b=>exact⟨b,rfl⟩
 rw[hbb]at hp
 have hPl:P.length<=9000:=by rw[hr]at hlen;simp at hlen;omega
 unfold zv
 have ef:=rE (mc:=u5) (me:=uP) (ρ:=[]) (g:=PV.int) (h:=PV.int) (fun b=>!wht b) P (fun a _=>by
  simp -implicitDefEqProofs [u5,az,tY,n8,wht,eT,kz]
  grind) (fun a _=>by simp[uP])
 have hlim:(P.filter fun b=>!wht b).length<=lim:=df (by
  have:=List.length_filter_le (fun b=>!wht b) P
  omega)
 rw[aY (ρ':=kE ns row P V (some (.sh (.lst (L.map .int)))) P.length (some (.sh (.int (0+(S:Int))))) (some (.sh (.int (0+(I:Int))))) o' (some (.sh (.int b))) none none) (by
  have hsl:oX (ao 2) (mC .non) (kb (ao 3)) (kE ns row P V (some (.sh (.lst (L.map .int)))) P.length (some (.sh (.int (0+(S:Int))))) (some (.sh (.int (0+(I:Int))))) o' none none none)=.ok (.fr (P.map .int)):=by
   rw[<- yZ P R,hr];simp -implicitDefEqProofs [oX,EB,kb,sN]
  have hcl:j9 (oX (ao 2) (mC .non) (kb (ao 3))) [] u5 uP (kE ns row P V (some (.sh (.lst (L.map .int)))) P.length (some (.sh (.int (0+(S:Int))))) (some (.sh (.int (0+(I:Int))))) o' none none none)=.ok (.fr ((P.filter fun b=>!wht b).map .int)):=by
   unfold j9;rw[hsl];simp -implicitDefEqProofs [cX,ef,noX,hlim]
  have hal:=GD (show(P.filter fun b=>!wht b).getLast?=some b from hbb);unfold bf mOp;rw[hcl]
  simp -implicitDefEqProofs [nk,RV.pv,hal])]
 unfold zI
 have eg:=rE (mc:=Cw) (me:=u2) (ρ:=[some (.sh (.int P.length))]) (g:=ndP) (h:=fun d=>PV.int (clo d.s)) (hN P.length) nds (fun d _=>BZ P.length d 1 0 _ rfl rfl) (fun d _=>by
  by_cases z:d.s = "fields"
  . simp -implicitDefEqProofs [u2,az,nd0,gEq,eqS,aH,z,clo]
  . simp -implicitDefEqProofs [u2,az,nd0,gEq,eqS,aH,z,clo])
 have hfl:(nds.filter (hN P.length)).length<=1000:=by
  have:=List.length_filter_le (hN P.length) nds;omega
 have hlim2:(nds.filter (hN P.length)).length<=lim:=df (by omega)
 have ehs:(nds.filter (hN P.length)).map (fun d=>PV.int (clo d.s))=((PG.hs (nds.map Nd.t) P.length).map clo).map PV.int:=by
  rw[zO _ _ hb,List.map_map,List.map_map];rfl
 have hhl:(PG.hs (nds.map Nd.t) P.length).length<=1000:=by rw[zO _ _ hb,List.length_map];exact hfl
 rw[aY (ρ':=kE ns row P V (some (.sh (.lst (L.map .int)))) P.length (some (.sh (.int (0+(S:Int))))) (some (.sh (.int (0+(I:Int))))) o' (some (.sh (.int b))) (some (.ow (((PG.hs (nds.map Nd.t) P.length).map clo).map PV.int))) none) (by
  unfold bf j9;rw[v1,<- ehs]
  simp -implicitDefEqProofs [cX,eg,noX,hlim2])]
 unfold y4;generalize PG.hs (nds.map Nd.t) P.length=H at *
 rw[aY (ρ':=kE ns row P V (some (.sh (.lst (L.map .int)))) P.length (some (.sh (.int (0+(S:Int))))) (some (.sh (.int (0+(I:Int))))) o' (some (.sh (.int b))) (some (.ow ((H.reverse.map clo).map PV.int))) none) (by
  simp[sF,List.map_reverse])]
 unfold zZ;rw[aY (ρ':=kE ns row P V (some (.sh (.lst (L.map .int)))) P.length (some (.sh (.int (0+(S:Int))))) (some (.sh (.int (0+(I:Int))))) o' (some (.sh (.int b))) (some (.ow ((H.reverse.map clo).map PV.int))) (some (.sh .non))) (by simp[bf])];unfold Ap;obtain⟨x',h6⟩:=Jb ns row P V (some (.sh (.lst (L.map .int)))) P.length (some (.sh (.int (0+(S:Int))))) (some (.sh (.int (0+(I:Int))))) (some (.sh (.int b))) (some (.ow ((H.reverse.map clo).map PV.int))) nds none o';rw[aY (by unfold mw;rw[v1];simp only[fu,Bz];exact h6)];have htk:=Gf P.length nds none;rw[hends];refine Ib ns row P _ V _ _ _ _ b _ H.getLast? p ?_ ?_ ?_ ?_
 . rw[htk];exact hp
 . rw[List.head?_map,List.head?_reverse]
 . intro z;apply hne;simpa using z
 . simpa using hhl
theorem Fg(ns:List Int)(_:ns.length<=63):xu [.lst (ns.map .int)]=.ok (.sh (.bl true)):=by
 obtain⟨m,hm⟩:∃ m:Nat,(m:Int)=1+PG.mix ns 62%9:=⟨(1+PG.mix ns 62%9).toNat,by omega⟩
 have hm1:1<=m:=by omega
 have hm2:m<=9:=by omega
 obtain⟨hpc,hrl,hnl⟩:=Eg ns m hm1 (by omega);have hb:=HL ns m (by omega);generalize (qQ ns m).row=row at *;generalize (qQ ns m).nodes=nds at *;generalize (qQ ns m).val=val at *;have I:=hpc.inv;generalize hV:PV.tup [.lst (row.map .int),.lst (nds.map ndP),val]=V at hb
 obtain⟨t,ht⟩:∃ t:Nat,(t:Int)=PG.mix ns 60%(row.length+1):=⟨(PG.mix ns 60%(row.length+1)).toNat,by
  have:=Int.emod_nonneg (PG.mix ns 60) (show((row.length:Int)+1)≠0 by omega)
  omega⟩
 have htl:t<=row.length:=by
  have:=Int.emod_lt_of_pos (PG.mix ns 60) (show 0<((row.length:Int)+1) by omega);omega
 obtain⟨P,R,hPR,hPl⟩:∃ P R,row=P++R /\ P.length=t:=⟨row.take t,row.drop t,(List.take_append_drop t row).symm,by simp;omega⟩
 obtain⟨ls,hls,hgo⟩:=I.w1 rfl;have hrow:=rl hgo
 have hlo:(PG.tk st0 row).1.all PG.loose=true:=by
  rw[hrow];exact FT hls rfl
 have hwr:(PG.tk st0 row).2=row.length:=by rw[hrow]
 have hpre:=FR P R st0 (by rw[<- hPR];exact hwr)
 have her:PG.ends (PG.tk st0 row).1=[]:=by
  have:=nA (st:=[]) hlo;rw[List.append_nil]at this;rw[this];rfl
 have hel:(PG.ends (PG.tk st0 P).1).length<=R.length:=Cu R _ hpre.2 (by
  have hg:=yJ P st0 hpre.1 R;rw[<- hPR]at hg;rw[hg]at hlo
  exact hlo)
 have hlen:P.length+R.length=row.length:=by rw[hPR];simp
 have e1:=m6 P (by omega) hpre.1;have e2:=m6 row (by omega) hwr;rw[her]at e2;have hfl:=Ex hpre.1;generalize hL:PG.ends (PG.tk st0 P).1=L at *;have e3:=uV (P++L) (by simp;omega);rw[hfl]at e3;have e4:=kO L (by omega);unfold xu fnP;rw[if_pos (show List.length [PV.lst (ns.map .int)]=1 from rfl),show kB 12 [PV.lst (ns.map .int)]=[some (.sh (.lst (ns.map .int))),none,none,none,none,none,none,none,none,none,none,none] from rfl];unfold Jc
 rw[aY (ρ':=[some (.sh (.lst (ns.map .int))),some (.sh V),none,none,none,none,none,none,none,none,none,none]) (by
  rw[hm]at hb
  simp[bf,dJ,hb])]
 unfold BO
 rw[aY (ρ':=[some (.sh (.lst (ns.map .int))),some (.sh V),some (.sh (.lst (row.map .int))),none,none,none,none,none,none,none,none,none]) (by
  rw[<- hV];simp[bf,dw,atP,ixP])]
 unfold BX
 rw[aY (ρ':=[some (.sh (.lst (ns.map .int))),some (.sh V),some (.sh (.lst (row.map .int))),some (.sh (.int t)),none,none,none,none,none,none,none,none]) (by
  have z1:¬ ((row.length:Int)+1=0):=by omega
  have z2:0<(row.length:Int)+1:=by omega
  have z3:(row.length:Int)+1<1073741824:=by omega
  rw[ht]
  simp[bf,dJ,z1,z2,z3])]
 have hsl:∀(a4 a5 a6 a7 a8 a9 a10 a11:Option Sl),oX (ao 2) (mC .non) (kb (ao 3)) [some (.sh (.lst (ns.map .int))),some (.sh V),some (.sh (.lst (row.map .int))),some (.sh (.int t)),a4,a5,a6,a7,a8,a9,a10,a11]=.ok (.fr (P.map .int)):=by
  intro a4 a5 a6 a7 a8 a9 a10 a11;rw[<- yZ P R,hPR,hPl];simp -implicitDefEqProofs [oX,EB,kb,sN]
 unfold Ck
 rw[aY (ρ':=[some (.sh (.lst (ns.map .int))),some (.sh V),some (.sh (.lst (row.map .int))),some (.sh (.int t)),some (.ow (P.map .int)),none,none,none,none,none,none,none]) (by
  unfold bf;rw[hsl];simp)]
 unfold BE
 rw[aY (ρ':=kE ns row P (some (.sh V)) (some (.sh (.lst (L.map .int)))) t none none none none none none) (by
  simp[gw,kR,bf,e1])]
 unfold Ci
 rw[aY (ρ':=kE ns row P (some (.sh V)) (some (.sh (.lst (L.map .int)))) t none none none none none none) (by
  unfold gw;rw[show kR 5 (kE ns row P (some (.sh V)) (some (.sh (.lst (L.map .int)))) t none none none none none none)=kE ns row P (some (.sh V)) (some (.sh (.lst (L.map .int)))) t none none none none none none from rfl]
  refine(Bx ?_).trans (p6 _)
  have c1:BK (dM (br eV (ak (ao 5) aJ))) (kE ns row P (some (.sh V)) (some (.sh (.lst (L.map .int)))) t none none none none none none)=.ok false:=by
   simp -implicitDefEqProofs [dM,e4,ud]
  have c2:az (mOp Dk (ao 4) (oX (ao 2) (mC .non) (kb (ao 3)))) (kE ns row P (some (.sh V)) (some (.sh (.lst (L.map .int)))) t none none none none none none)=.ok false:=by
   unfold az mOp;rw[hsl];simp -implicitDefEqProofs [Dk,A1]
  have c3:az (mOp u6 (br kM (ak (mOp iQ (oX (ao 2) (mC .non) (kb (ao 3))) (ao 5)) aJ)) (mC .non)) (kE ns row P (some (.sh V)) (some (.sh (.lst (L.map .int)))) t none none none none none none)=.ok false:=by
   have hlim:P.length+L.length<=lim:=df (by omega)
   have ec:mOp iQ (oX (ao 2) (mC .non) (kb (ao 3))) (ao 5) (kE ns row P (some (.sh V)) (some (.sh (.lst (L.map .int)))) t none none none none none none)=.ok (.fr ((P++L).map .int)):=by
    unfold mOp;rw[hsl];simp -implicitDefEqProofs [iQ,hlim]
   revert ec;generalize mOp iQ (oX (ao 2) (mC .non) (kb (ao 3))) (ao 5)=E;intro ec
   have em:br kM (ak E aJ) (kE ns row P (some (.sh V)) (some (.sh (.lst (L.map .int)))) t none none none none none none)=.ok (.sh .non):=by
    unfold br ak aJ;rw[ec];exact e3
   unfold az mOp;rw[em];rfl
  unfold kX;rw[c1,c2,c3]
  rfl)]
 unfold B6
 rw[sk (by
  have hl0:0<=lim:=df (by omega)
  have:=e2;simp -implicitDefEqProofs [az,this,Dk,A1]
  rfl)]
 rw[<- hPl];exact FF ns row P R L nds val _ (by rw[<- hV]) hPR (by omega) (by omega) (fun d hd=>I.op d.t (List.mem_map_of_mem hd)) (I.le P.length (by omega)) hL none none none
end L2.plainglass_k09_endings
namespace L2.plainglass_k09_endings
open PySem PySem.Spec PyProof.Rows L2.E L2.P PG
def top(i:Nat):Stmt:=PySem.Challenge.pw_plainglass_k09_endings.main.body.getD i (.Pass ⟨0,0,0,0⟩)
abbrev xQ:Stmt:=top 6
abbrev vO:List Str:=["byte"]
theorem FO:aW ["byte"] vO (aC xQ):=eJ
abbrev je:Stmt:=top 7
abbrev iP:List Str:=["byte"]
theorem rn:aW ["byte"] iP (aC je):=eJ
abbrev jL:Stmt:=top 8
abbrev jw:List Str:=["byte"]
theorem su:aW ["byte"] jw (aC jL):=eJ
abbrev rf:Stmt:=top 30
abbrev o5:List Str:=["byte"]
theorem Aj:aW ["byte"] o5 (aC rf):=eJ
abbrev pJ:Stmt:=top 31
abbrev nL:List Str:=["byte"]
theorem yq:aW ["byte"] nL (aC pJ):=eJ
abbrev o1:Stmt:=top 32
abbrev oy:List Str:=["byte"]
theorem x4:aW ["byte"] oy (aC o1):=eJ
abbrev o4:Stmt:=top 33
abbrev nu:List Str:=["byte"]
theorem xM:aW ["byte"] nu (aC o4):=eJ
abbrev ly:Stmt:=top 34
abbrev kC:List Str:=["byte"]
theorem uH:aW ["byte"] kC (aC ly):=eJ
abbrev vL:Stmt:=top 40
abbrev tP:List Str:=["item","byte"]
theorem CH:aW ["item","byte"] tP (aC vL):=eJ
abbrev lH:Stmt:=top 41
abbrev kD:List Str:=["byte"]
theorem oG:aW ["byte","rest"] kD (aC lH):=eJ
abbrev mE:Stmt:=top 42
abbrev lr:List Str:=["byte"]
theorem v7:aW ["byte"] lr (aC mE):=eJ
abbrev iV:Stmt:=top 43
abbrev ia:List Str:=["item","byte"]
theorem qd:aW ["item","byte"] ia (aC iV):=eJ
abbrev jR:Stmt:=top 44
abbrev js:List Str:=["item","byte"]
theorem mB:aW ["item","byte","worth"] js (aC jR):=eJ
abbrev iI:Stmt:=top 45
abbrev ib:List Str:=["byte"]
theorem kJ:aW ["byte","spans"] ib (aC iI):=eJ
abbrev iM:Stmt:=top 46
abbrev ig:List Str:=["byte"]
theorem qe:aW ["byte"] ig (aC iM):=eJ
abbrev kx:Stmt:=top 47
abbrev jG:List Str:=["worth"]
theorem mY:aW ["worth","second"] jG (aC kx):=eJ
abbrev oe:Stmt:=top 48
abbrev mI:List Str:=["item","byte"]
theorem qI:aW ["item","byte","worth"] mI (aC oe):=eJ
abbrev gH:Stmt:=top 49
abbrev gj:List Str:=["item","byte"]
theorem oN:aW ["item","byte"] gj (aC gH):=eJ
abbrev iU:Stmt:=top 50
abbrev ij:List Str:=["byte"]
theorem kK:aW ["byte","items"] ij (aC iU):=eJ
abbrev gp:Stmt:=top 51
abbrev fQ:List Str:=["byte"]
theorem ot:aW ["byte"] fQ (aC gp):=eJ
abbrev mH:Stmt:=top 52
abbrev lD:List Str:=[]
theorem vV:aW [] lD (aC mH):=eJ
abbrev u7:Stmt:=top 55
abbrev tO:List Str:=["row"]
theorem mX:aW ["row","walk","at","rest","item"] tO (aC u7):=eJ
abbrev rq:Stmt:=top 56
abbrev pM:List Str:=["item"]
theorem An:aW ["item"] pM (aC rq):=eJ
abbrev x6:Stmt:=top 58
abbrev v3:List Str:=["row"]
theorem vp:aW ["row","walk","at"] v3 (aC x6):=eJ
abbrev rm:Stmt:=top 60
abbrev oR:List Str:=["_law_script","_law_k"]
theorem zF:aW ["_law_script","_law_k"] oR (aC rm):=eJ
abbrev tU:Stmt:=top 61
abbrev rB:List Str:=["_law_script","_law_k"]
theorem rj:aW ["_law_script","_law_k","_law_number_here"] rB (aC tU):=eJ
abbrev o9:Stmt:=top 62
abbrev ou:List Str:=["_law_found"]
theorem yb:aW ["_law_found"] ou (aC o9):=eJ
abbrev nr:Stmt:=top 63
abbrev mT:List Str:=["_law_found"]
theorem wG:aW ["_law_found"] mT (aC nr):=eJ
abbrev pG:Stmt:=top 64
abbrev nK:List Str:=["_law_number_here"]
theorem oh:aW ["_law_number_here","_law_kind","_law_rest"] nK (aC pG):=eJ
abbrev nY:Stmt:=top 65
abbrev mL:List Str:=["_law_script","_law_k"]
theorem jY:aW ["_law_script","_law_k","_law_number_here","_law_size_here"] mL (aC nY):=eJ
abbrev pO:Stmt:=top 66
abbrev ny:List Str:=["_law_point_here"]
theorem g8:aW ["_law_point_here","_law_many_here","_law_found","_law_k"] ny (aC pO):=eJ
abbrev sZ:Stmt:=top 67
abbrev qT:List Str:=["_law_number_here","_law_big"]
theorem iH:aW ["_law_number_here","_law_big","_law_found","_law_k","_law_worth"] qT (aC sZ):=eJ
abbrev qY:Stmt:=top 68
abbrev o7:List Str:=["_law_point_here","_law_number_here"]
theorem lO:aW ["_law_point_here","_law_number_here","_law_short","_law_way","_law_rest"] o7 (aC qY):=eJ
abbrev rp:Stmt:=top 69
abbrev pk:List Str:=["_law_points_here","_law_number_here"]
theorem iW:aW ["_law_points_here","_law_number_here","_law_found","_law_at","_law_point_here"] pk (aC rp):=eJ
abbrev oi:Stmt:=top 70
abbrev mS:List Str:=["_law_number_here"]
theorem bH:aW ["_law_number_here","_law_below","_law_figures_here","_law_row","_law_worth","_law_figure","_law_power","_law_more","_law_down"] mS (aC oi):=eJ
abbrev pz:Stmt:=top 71
abbrev oz:List Str:=["_law_worth","_law_power"]
theorem oo:aW ["_law_worth","_law_power"] oz (aC pz):=eJ
abbrev pw:Stmt:=top 72
abbrev nM:List Str:=["_law_number_here"]
theorem yS:aW ["_law_number_here"] nM (aC pw):=eJ
abbrev jd:Stmt:=top 73
abbrev iG:List Str:=["_law_script","_law_number_here"]
theorem fZ:aW ["_law_script","_law_number_here","_law_kind","_law_points_here","_law_found"] iG (aC jd):=eJ
abbrev rL:Stmt:=top 74
abbrev pH:List Str:=["_law_script","_law_number_here"]
theorem yW:aW ["_law_script","_law_number_here"] pH (aC rL):=eJ
abbrev oS:Stmt:=top 75
abbrev nX:List Str:=["_law_row","_law_nodes_here","_law_frames"]
theorem nF:aW ["_law_row","_law_nodes_here","_law_frames","_law_frame","_law_value_here"] nX (aC oS):=eJ
abbrev pb:Stmt:=top 76
abbrev oq:List Str:=["_law_script","_law_row","_law_nodes_here","_law_frames","_law_number_here"]
theorem i6:aW ["_law_script","_law_row","_law_nodes_here","_law_frames","_law_number_here","_law_name_here","_law_points_here","_law_at"] oq (aC pb):=eJ
abbrev o6:Stmt:=top 77
abbrev nj:List Str:=["_law_script","_law_many_here"]
theorem cq:aW ["_law_script","_law_many_here","_law_row","_law_nodes_here","_law_frames","_law_value_here","_law_k","_law_number_here","_law_name_here","_law_at","_law_kind","_law_found"] nj (aC o6):=eJ
abbrev zy:Stmt:=top 78
abbrev AF:List Str:=["_law_script"]
theorem ie:aW ["_law_script","_law_built_here","_law_row","_law_at","_law_handed","_law_found","_law_still","_law_inside","_law_node","_law_last","_law_tail","_law_token"] AF (aC zy):=eJ
abbrev eA:Stmt:=inClass (top 39) 0
abbrev jK:List Str:=["self"]
theorem tE:aW ["self"] jK (aC eA):=eJ
abbrev gP:Stmt:=inClass (top 39) 1
abbrev nV:List Str:=["self","row"]
theorem ox:aW ["self","row","at","byte"] nV (aC gP):=eJ
abbrev eL:Stmt:=inClass (top 39) 2
abbrev kA:List Str:=["self","byte"]
theorem kj:aW ["self","byte","item","items"] kA (aC eL):=eJ
abbrev eh:Stmt:=inClass (top 39) 3
abbrev jQ:List Str:=["self"]
theorem tZ:aW ["self"] jQ (aC eh):=eJ
abbrev ez:Stmt:=inClass (top 39) 5
abbrev jE:List Str:=["self"]
theorem ub:aW ["self"] jE (aC ez):=eJ
set_option genInjectivity false in
set_option genSizeOf false in
structure Adr where
 jr:Addr
 d_tails:FuncData
 cR:Addr
 d_second_of_three:FuncData
 dm:Addr
 d_second_of_four:FuncData
 iO:Addr
 d_is_white:FuncData
 eW:Addr
 d_is_figure:FuncData
 fK:Addr
 d_hex_worth:FuncData
 eY:Addr
 d_word_rest:FuncData
 bN:Addr
 d_short_escape:FuncData
 ke:Addr
 d_behind:FuncData
 bM:Addr
 d_behind_value:FuncData
 dP:Addr
 d_behind_lead:FuncData
 aX:Addr
 d_behind_in_number:FuncData
 bJ:Addr
 d_behind_in_text:FuncData
 bW:Addr
 d_behind_character:FuncData
 cy:Addr
 d_behind_backslash:FuncData
 dC:Addr
 d_behind_code_d:FuncData
 dy:Addr
 d_behind_hex:FuncData
 bc:Addr
 d_behind_in_brackets:FuncData
 b7:Addr
 d_behind_row_begin:FuncData
 bY:Addr
 d_behind_fields_begin:FuncData
 eE:Addr
 d_member_rest:FuncData
 j5:Addr
 d_ending:FuncData
 iT:Addr
 d_shortest:FuncData
 kM:Addr
 d_fault:FuncData
 iK:Addr
 d_law_cell:FuncData
 eK:Addr
 d_law_mix:FuncData
 gO:Addr
 d_law_whole:FuncData
 eV:Addr
 d_law_wholes:FuncData
 dB:Addr
 d_law_point:FuncData
 eC:Addr
 d_law_points:FuncData
 eI:Addr
 d_law_eight:FuncData
 hJ:Addr
 d_law_hex:FuncData
 iL:Addr
 d_law_sign:FuncData
 fO:Addr
 d_law_text:FuncData
 fW:Addr
 d_law_number:FuncData
 fi:Addr
 d_law_plain:FuncData
 cz:Addr
 d_law_white:FuncData
 cu:Addr
 d_law_plain_value:FuncData
 gA:Addr
 d_law_name:FuncData
 cS:Addr
 d_law_close:FuncData
 fH:Addr
 d_law_begin:FuncData
 gC:Addr
 d_law_built:FuncData
 xu:Addr
 d_law:FuncData
 cg:Addr
 d_Walk___init__:FuncData
 eG:Addr
 d_Walk_take:FuncData
 dY:Addr
 d_Walk_goes_on:FuncData
 cD:Addr
 d_Walk_brackets:FuncData
 cZ:Addr
 d_Walk_is_whole:FuncData
 C_Walk:Addr
 v_TAIL:Addr
 v_BLANK:Value
 v_QUOTE:Value
 v_PLUS:Value
 v_COMMA:Value
 v_MINUS:Value
 v_POINT:Value
 v_NOUGHT:Value
 v_NINE:Value
 v_COLON:Value
 v_BIG_E:Value
 v_ROW_BEGIN:Value
 v_BACKSLASH:Value
 v_ROW_END:Value
 v_SMALL_E:Value
 v_SMALL_U:Value
 v_FIELDS_BEGIN:Value
 v_FIELDS_END:Value
 v_WHITE:Addr
 v_WORDS:Addr
 v_SHORT_ESCAPES:Addr
 v_MOST_BRACKETS:Value
 v_LOOSE:Addr
 v_UNENDED:Addr
 v_SHORTEST:Addr
structure Txt(w:World)(K:PySem.W.Frag)(mg:Str->Option Value)(t:Adr):Prop where
 e_tails:Ent K mg "tails" xQ t.jr t.d_tails vO
 e_second_of_three:Ent K mg "second_of_three" je t.cR t.d_second_of_three iP
 e_second_of_four:Ent K mg "second_of_four" jL t.dm t.d_second_of_four jw
 og:Ent K mg "is_white" rf t.iO t.d_is_white o5
 fJ:Ent K mg "is_figure" pJ t.eW t.d_is_figure nL
 iX:Ent K mg "hex_worth" o1 t.fK t.d_hex_worth oy
 e_word_rest:Ent K mg "word_rest" o4 t.eY t.d_word_rest nu
 jx:Ent K mg "short_escape" ly t.bN t.d_short_escape kC
 rR:Ent K mg "behind" vL t.ke t.d_behind tP
 fF:Ent K mg "behind_value" lH t.bM t.d_behind_value kD
 gg:Ent K mg "behind_lead" mE t.dP t.d_behind_lead lr
 e_behind_in_number:Ent K mg "behind_in_number" iV t.aX t.d_behind_in_number ia
 e_behind_in_text:Ent K mg "behind_in_text" jR t.bJ t.d_behind_in_text js
 fY:Ent K mg "behind_character" iI t.bW t.d_behind_character ib
 fS:Ent K mg "behind_backslash" iM t.cy t.d_behind_backslash ig
 iE:Ent K mg "behind_code_d" kx t.dC t.d_behind_code_d jG
 e_behind_hex:Ent K mg "behind_hex" oe t.dy t.d_behind_hex mI
 e_behind_in_brackets:Ent K mg "behind_in_brackets" gH t.bc t.d_behind_in_brackets gj
 fL:Ent K mg "behind_row_begin" iU t.b7 t.d_behind_row_begin ij
 eQ:Ent K mg "behind_fields_begin" gp t.bY t.d_behind_fields_begin fQ
 dq:Ent K mg "member_rest" mH t.eE t.d_member_rest lD
 m6:Ent K mg "ending" u7 t.j5 t.d_ending tO
 n6:Ent K mg "shortest" rq t.iT t.d_shortest pM
 uV:Ent K mg "fault" x6 t.kM t.d_fault v3
 nB:Ent K mg "_law_cell" rm t.iK t.d_law_cell oR
 dJ:Ent K mg "_law_mix" tU t.eK t.d_law_mix rB
 lW:Ent K mg "_law_whole" o9 t.gO t.d_law_whole ou
 kO:Ent K mg "_law_wholes" nr t.eV t.d_law_wholes mT
 lY:Ent K mg "_law_point" pG t.dB t.d_law_point nK
 gV:Ent K mg "_law_points" nY t.eC t.d_law_points mL
 lV:Ent K mg "_law_eight" pO t.eI t.d_law_eight ny
 jB:Ent K mg "_law_hex" sZ t.hJ t.d_law_hex qT
 nC:Ent K mg "_law_sign" qY t.iL t.d_law_sign o7
 jF:Ent K mg "_law_text" rp t.fO t.d_law_text pk
 kT:Ent K mg "_law_number" oi t.fW t.d_law_number mS
 e_law_plain:Ent K mg "_law_plain" pz t.fi t.d_law_plain oz
 dS:Ent K mg "_law_white" pw t.cz t.d_law_white nM
 e_law_plain_value:Ent K mg "_law_plain_value" jd t.cu t.d_law_plain_value iG
 n4:Ent K mg "_law_name" rL t.gA t.d_law_name pH
 e_law_close:Ent K mg "_law_close" oS t.cS t.d_law_close nX
 e_law_begin:Ent K mg "_law_begin" pb t.fH t.d_law_begin oq
 e_law_built:Ent K mg "_law_built" o6 t.gC t.d_law_built nj
 Fg:Ent K mg "law" zy t.xu t.d_law AF
 F_Walk___init__:Fun K "__init__" "Walk.__init__" eA t.cg t.d_Walk___init__
 b_Walk___init__:Binds K t.d_Walk___init__ jK []
 F_Walk_take:Fun K "take" "Walk.take" gP t.eG t.d_Walk_take
 h_Walk_take:Meth K t.C_Walk "take" t.eG
 b_Walk_take:Binds K t.d_Walk_take nV []
 F_Walk_goes_on:Fun K "goes_on" "Walk.goes_on" eL t.dY t.d_Walk_goes_on
 h_Walk_goes_on:Meth K t.C_Walk "goes_on" t.dY
 b_Walk_goes_on:Binds K t.d_Walk_goes_on kA []
 F_Walk_brackets:Fun K "brackets" "Walk.brackets" eh t.cD t.d_Walk_brackets
 h_Walk_brackets:Meth K t.C_Walk "brackets" t.cD
 b_Walk_brackets:Binds K t.d_Walk_brackets jQ []
 F_Walk_is_whole:Fun K "is_whole" "Walk.is_whole" ez t.cZ t.d_Walk_is_whole
 h_Walk_is_whole:Meth K t.C_Walk "is_whole" t.cZ
 b_Walk_is_whole:Binds K t.d_Walk_is_whole jE []
 n_isinstance:mg "isinstance" = none
 n_tuple:mg "tuple" = none
 n_len:mg "len" = none
 n_int:mg "int" = none
 n_bool:mg "bool" = none
 n_list:mg "list" = none
 n_all:mg "all" = none
 n_range:mg "range" = none
 n_str:mg "str" = none
 n_ord:mg "ord" = none
 n_enumerate:mg "enumerate" = none
 m_Walk:mg "Walk" = some (.ref t.C_Walk)
 c_Walk:Cls K t.C_Walk
 k_Walk:Mk K t.C_Walk t.cg
 na_Walk_coming:mQ K t.C_Walk "coming"
 m_TAIL:mg "TAIL" = some (.ref t.v_TAIL)
 r_TAIL:RelV (.ref t.v_TAIL) (.ref t.v_TAIL)
 q_TAIL:∀ H,SqT K H t.v_TAIL [.int 128,.int 191]
 m_BLANK:mg "BLANK" = some t.v_BLANK
 r_BLANK:RelV (.int 32) t.v_BLANK
 m_QUOTE:mg "QUOTE" = some t.v_QUOTE
 r_QUOTE:RelV (.int 34) t.v_QUOTE
 m_PLUS:mg "PLUS" = some t.v_PLUS
 r_PLUS:RelV (.int 43) t.v_PLUS
 m_COMMA:mg "COMMA" = some t.v_COMMA
 r_COMMA:RelV (.int 44) t.v_COMMA
 m_MINUS:mg "MINUS" = some t.v_MINUS
 r_MINUS:RelV (.int 45) t.v_MINUS
 m_POINT:mg "POINT" = some t.v_POINT
 r_POINT:RelV (.int 46) t.v_POINT
 m_NOUGHT:mg "NOUGHT" = some t.v_NOUGHT
 r_NOUGHT:RelV (.int 48) t.v_NOUGHT
 m_NINE:mg "NINE" = some t.v_NINE
 r_NINE:RelV (.int 57) t.v_NINE
 m_COLON:mg "COLON" = some t.v_COLON
 r_COLON:RelV (.int 58) t.v_COLON
 m_BIG_E:mg "BIG_E" = some t.v_BIG_E
 r_BIG_E:RelV (.int 69) t.v_BIG_E
 m_ROW_BEGIN:mg "ROW_BEGIN" = some t.v_ROW_BEGIN
 r_ROW_BEGIN:RelV (.int 91) t.v_ROW_BEGIN
 m_BACKSLASH:mg "BACKSLASH" = some t.v_BACKSLASH
 r_BACKSLASH:RelV (.int 92) t.v_BACKSLASH
 m_ROW_END:mg "ROW_END" = some t.v_ROW_END
 r_ROW_END:RelV (.int 93) t.v_ROW_END
 m_SMALL_E:mg "SMALL_E" = some t.v_SMALL_E
 r_SMALL_E:RelV (.int 101) t.v_SMALL_E
 m_SMALL_U:mg "SMALL_U" = some t.v_SMALL_U
 r_SMALL_U:RelV (.int 117) t.v_SMALL_U
 m_FIELDS_BEGIN:mg "FIELDS_BEGIN" = some t.v_FIELDS_BEGIN
 r_FIELDS_BEGIN:RelV (.int 123) t.v_FIELDS_BEGIN
 m_FIELDS_END:mg "FIELDS_END" = some t.v_FIELDS_END
 r_FIELDS_END:RelV (.int 125) t.v_FIELDS_END
 m_WHITE:mg "WHITE" = some (.ref t.v_WHITE)
 r_WHITE:RelV (.ref t.v_WHITE) (.ref t.v_WHITE)
 q_WHITE:∀ H,SqT K H t.v_WHITE [.int 9,.int 10,.int 13,.int 32]
 m_WORDS:mg "WORDS" = some (.ref t.v_WORDS)
 r_WORDS:RelV (.ref t.v_WORDS) (.ref t.v_WORDS)
 q_WORDS:DKP K t.v_WORDS [(110,.tup ([117,108,108].map .int)),(116,.tup ([114,117,101].map .int)),(102,.tup ([97,108,115,101].map .int))]
 m_SHORT_ESCAPES:mg "SHORT_ESCAPES" = some (.ref t.v_SHORT_ESCAPES)
 r_SHORT_ESCAPES:RelV (.ref t.v_SHORT_ESCAPES) (.ref t.v_SHORT_ESCAPES)
 q_SHORT_ESCAPES:DKP K t.v_SHORT_ESCAPES [(34,.int 34),(92,.int 92),(47,.int 47),(98,.int 8),(102,.int 12),(110,.int 10),(114,.int 13),(116,.int 9)]
 m_MOST_BRACKETS:mg "MOST_BRACKETS" = some t.v_MOST_BRACKETS
 r_MOST_BRACKETS:RelV (.int 64) t.v_MOST_BRACKETS
 m_LOOSE:mg "LOOSE" = some (.ref t.v_LOOSE)
 r_LOOSE:RelV (.ref t.v_LOOSE) (.ref t.v_LOOSE)
 q_LOOSE:∀ H,SqT K H t.v_LOOSE [.str "white",.str "figures",.str "fraction",.str "exponent",.str "sign"]
 m_UNENDED:mg "UNENDED" = some (.ref t.v_UNENDED)
 r_UNENDED:RelV (.ref t.v_UNENDED) (.ref t.v_UNENDED)
 q_UNENDED:∀ H,SqT K H t.v_UNENDED [.str "row",.str "more row",.str "fields",.str "more fields"]
 m_SHORTEST:mg "SHORTEST" = some (.ref t.v_SHORTEST)
 r_SHORTEST:RelV (.ref t.v_SHORTEST) (.ref t.v_SHORTEST)
 q_SHORTEST:DTP w K t.v_SHORTEST [("value",.tup ([48].map .int)),("lead",.tup ([48].map .int)),("text",.tup ([34].map .int)),("name",.tup ([34,34].map .int)),("escape",.tup ([34].map .int)),("code",.tup ([48,48,48,48].map .int)),("code d",.tup ([48,48,48].map .int)),("hex",.tup ([48].map .int)),("hex d",.tup ([68].map .int)),("hex c to f",.tup ([67].map .int)),("row",.tup ([93].map .int)),("more row",.tup ([93].map .int)),("fields",.tup ([125].map .int)),("more fields",.tup ([125].map .int))]
noncomputable def cn(t:Adr)(c:String):Option Addr:=if c = "Walk" then some t.C_Walk else none
theorem gJ{K:PySem.W.Frag}{mg:Str->Option Value}{t:Adr}(T:Txt w K mg t):∀ c C,cn t c=some C->m8 c=true->Cls K C /\ mQ K C "coming":=by
 intro c C h1 h2;unfold cn at h1;unfold m8 at h2
 by_cases e:c = "Walk"
 . subst e;simp at h1;subst h1;exact⟨T.c_Walk,T.na_Walk_coming⟩
 rw[if_neg e]at h1;cases h1
section
variable{P:Program}{w:World}{K:PySem.W.Frag}{mg:Str->Option Value}{base:Heap}{t:Adr}
theorem zG(T:Txt w K mg t):cp P w K mg base (CXE P w) 1 t.iK t.d_law_cell oR (spP K (cn t) iK):=
 fG T.nB.F zF fun _ _ _ _ _ _ hr=>⟨_,(aj (aT (cb (qv 0) (fun _=>rfl)) (au (aA (qi bU (qv 0) (aF bP (qv 1) (qo T.n_len (qv 0)))))) aE)
   (au (aA ai))),
  (aw (aU (eN ae) (aB (aq pf ae (aq bO ae (gm tu ae)))) aD)
    (aB ah))⟩
theorem jH(T:Txt w K mg t):cp P w K mg base (CXE P w) 2 t.eK t.d_law_mix rB (spP K (cn t) eK):=
 fG T.dJ.F rj fun _ _ _ _ _ _ hr=>⟨_,(aj (qz 2 rj.nd (aF bP (aF cf (qx (zG T) T.nB hr aN (aa (qv 0) (aa (qv 1) av))) (aF tF ai (aF cf (qv 1) ai))) ai))
   (aj (qz 2 rj.nd (aF bP (aF tF (qv 2) ai) ai))
   (au (aA (aF bP (aF cf (aF tF (aF bS (qv 2) ai) ai) (qv 2)) ai))))),
  (aw (aV (aq bO (aq cj (aR (af ae (af ae ax))) (aq uc ah (aq cj ae ah))) ah))
    (aw (aV (aq bO (aq uc ae ah) ah))
    (aB (aq bO (aq cj (aq uc (aq bR ae ah) ah) ae) ah))))⟩
theorem sE(T:Txt w K mg t):cp P w K mg base (CXE P w) 1 t.cS t.d_law_close nX (spI K (cn t) cS):=
 vY T.e_law_close.F nF fun _ _ _ _ _ _ hr=>⟨_,(aj (qz 3 nF.nd (Bn PySem.F.plainAttrs_list PySem.F.slot_list_pop PySem.F.type_list_pop FH (qv 2)))
   (aj (qap ck (qv 0) (cP (by exact(bw bp (qi bU (qv 3) ai) aM)) ai ai))
   (aj (yz (qo T.n_len (qv 0)) (yn (qi bU (qv 1) (qi bU (qv 3) ai)) ai set_list))
   (aj (yz (qo T.n_len (qv 1)) (yn (qi bU (qv 1) (qi bU (qv 3) ai)) ai set_list))
   (aj (qz 4 nF.nd (cA (aa (qi bU (qv 3) ai) (aa (hE jW rfl T.n_tuple L2.E.boot_tuple (aa (qi bU (qv 3) ai) av)) av))))
   (aj (aT (cb (qv 2) (fun _=>rfl)) (aj (qap ck (qi bU (qi bU (qv 2) (mi jf ai)) ai) (cP (by exact(bw bp (qi bU (qi bU (qv 2) (mi jf ai)) ai) aM)) (qv 4) (cA (aa (qi bU (qv 3) ai) (aa (qv 4) av)))))
   (au (aT (bw bp (qi bU (qi bU (qv 2) (mi jf ai)) ai) aM) (au (yz (qo T.n_len (qv 1)) (yn (qi bU (qv 1) (aF qZ (qi bU (qv 3) ai) ai)) ai set_list))) aE))) aE)
   (au (aA (qv 4))))))))),
  (aw (nN (BV aP))
    (aw (eP aP (lM (hZ (ay (aq bj (fX (jD aP ah)) aL)) ah ah)))
    (aw (uY (jD aP (fX (jD aP ah))) ah (lM (jZ aP)))
    (aw (uY (jD aP (fX (jD aP ah))) ah (lM (jZ aP)))
    (aw (aV (cx (af (fX (jD aP ah)) (af (gm ye (fX (jD aP ah))) ax))))
    (aw (aU (gU aP) (aw (eP (jD (jD aP (lX jb ah)) ah) (lM (hZ (ay (aq bj (fX (jD (jD aP (lX jb ah)) ah)) aL)) ae (cx (af (fX (jD aP ah)) (af ae ax))))))
    (aU (ay (aq bj (fX (jD (jD aP (lX jb ah)) ah)) aL)) (uY (jD aP (aq rJ (fX (jD aP ah)) ah)) ah (lM (jZ aP))) aD)) aD)
    nc))))))⟩
theorem gX(T:Txt w K mg t):cp P w K mg base (CXE P w) 1 t.cz t.d_law_white nM (spP K (cn t) cz):=
 fG T.dS.F yS fun _ _ _ _ _ _ hr=>⟨_,(aj (aT (bw wW (aF bP (qv 0) ai) ai) (au (aA (aQ av))) aE)
   (au (aA (lP (M:=["_law_number_here"]) (ι:=[0]) (x:="_law_k") ⟨rfl,rfl,rfl,rfl,rfl,rfl,rfl,rfl,rfl,rfl,rfl,by decide +kernel⟩ rfl (nh rfl T.n_range (aa (aF cf (aF bP (aF bS (qv 0) ai) ai) ai) av)) fun _ _ _ _=>(qi bU (aQ (aa ai (aa ai (aa ai (aa ai av))))) (aF bP (aF bS (aF bS (qv 0) ai) (aF cf ai (aF tF ai (qv 1)))) ai)))))),
  (aw (aU (ay (aq xv (aq bO ae ah) ah)) (aB (aS ax)) aD)
    (aB (yX (by decide) (aq cj (aq bO (aq bR ae ah) ah) ah) (aq pf (aS (af ah (af ah (af ah (af ah ax))))) (aq bO (aq bR (aq bR ae ah) (aq cj ah (aq uc ah ae))) ah)))))⟩
theorem yE(T:Txt w K mg t):cp P w K mg base (CXE P w) 1 t.dB t.d_law_point nK (spP K (cn t) dB):=
 fG T.lY.F oh fun _ _ _ _ _ _ hr=>⟨_,(aj (qz 1 oh.nd (aF bP (qv 0) ai))
   (aj (qz 2 oh.nd (aF bS (qv 0) ai))
   (aj (aT (bw kg (qv 1) ai) (au (aA (aF cf ai (aF bP (qv 2) ai)))) aE)
   (aj (aT (bw kg (qv 1) ai) (au (aA (qi bU (aQ (aa ai (aa ai (aa ai (aa ai (aa ai (aa ai (aa ai (aa ai (aa ai (aa ai (aa ai av)))))))))))) (aF bP (qv 2) ai)))) aE)
   (aj (aT (bw bp (qv 1) ai) (au (aA (aF cf ai (aF bP (qv 2) ai)))) aE)
   (aj (aT (bw bp (qv 1) ai) (au (aA (aF cf ai (aF bP (qv 2) ai)))) aE)
   (aj (aT (bw bp (qv 1) ai) (au (aA (aF cf ai (aF bP (qv 2) ai)))) aE)
   (au (aA (aF cf ai (aF bP (qv 2) ai))))))))))),
  (aw (aV (aq bO ae ah))
    (aw (aV (aq bR ae ah))
    (aw (aU (ay (aq kf ae ah)) (aB (aq cj ah (aq bO ae ah))) aD)
    (aw (aU (ay (aq kf ae ah)) (aB (aq pf (aS (af ah (af ah (af ah (af ah (af ah (af ah (af ah (af ah (af ah (af ah (af ah ax)))))))))))) (aq bO ae ah))) aD)
    (aw (aU (ay (aq bj ae ah)) (aB (aq cj ah (aq bO ae ah))) aD)
    (aw (aU (ay (aq bj ae ah)) (aB (aq cj ah (aq bO ae ah))) aD)
    (aw (aU (ay (aq bj ae ah)) (aB (aq cj ah (aq bO ae ah))) aD)
    (aB (aq cj ah (aq bO ae ah))))))))))⟩
theorem qS(T:Txt w K mg t):cp P w K mg base (CXE P w) 3 t.eC t.d_law_points mL (spP K (cn t) eC):=
 fG T.gV.F jY fun _ _ _ _ _ _ hr=>⟨_,(aj (qz 2 jY.nd (qx (jH T) T.dJ hr aN (aa (qv 0) (aa (qv 1) av))))
   (aj (qz 3 jY.nd (aF bP (qv 2) ai))
   (aj (aT (bw bp (aF bP (aF bS (qv 2) ai) ai) ai) (au (qz 3 jY.nd (aF bP (aF bS (qv 2) ai) ai))) aE)
   (au (aA (lP (M:=["_law_script","_law_k"]) (ι:=[0,1]) (x:="_law_j") ⟨rfl,rfl,rfl,rfl,rfl,rfl,rfl,rfl,rfl,rfl,rfl,by decide +kernel⟩ rfl (nh rfl T.n_range (aa (qv 3) av)) fun _ _ _ _=>(qx (yE T) T.lY hr Bw (aa (qx (jH T) T.dJ hr Bw (aa (qv 0) (aa (aF cf (aF cf (qv 1) ai) (qv 2)) av))) av)))))))),
  (aw (aV (aR (af ae (af ae ax))))
    (aw (aV (aq bO ae ah))
    (aw (aU (ay (aq bj (aq bO (aq bR ae ah) ah) ah)) (aV (aq bO (aq bR ae ah) ah)) aD)
    (aB (yX (by decide) ae (aR (af (aR (af ae (af (aq cj (aq cj ae ah) ae) ax))) ax)))))))⟩
theorem Af(T:Txt w K mg t):cp P w K mg base (CXE P w) 4 t.gA t.d_law_name pH (spP K (cn t) gA):=
 fG T.n4.F yW fun _ _ _ _ _ _ hr=>⟨_,(aj (aT (bw bp (aF bP (qv 1) ai) ai) (au (aA (aQ (aa (aF cf ai (aF bP (aF bS (qv 1) ai) ai)) av)))) aE)
   (au (aA (qx (qS T) T.gV hr aN (aa (qv 0) (aa (aF cf ai (aF bP (aF bS (qv 1) ai) ai)) av)))))),
  (aw (aU (ay (aq bj (aq bO ae ah) ah)) (aB (aS (af (aq cj ah (aq bO (aq bR ae ah) ah)) ax))) aD)
    (aB (aR (af ae (af (aq cj ah (aq bO (aq bR ae ah) ah)) ax)))))⟩
theorem yA(T:Txt w K mg t):cp P w K mg base (CXE P w) 1 t.eI t.d_law_eight ny (spP K (cn t) eI):=
 fG T.lV.F g8 fun _ _ _ _ _ _ hr=>⟨_,(aj (aT (bw kg (qv 0) ai) (au (aA (aQ (aa (qv 0) av)))) aE)
   (aj (qz 1 g8.nd (aF cf (aF cf ai (hE xp rfl T.n_int L2.E.boot_int (aa (gy Cq (qv 0) ai (jO _)) av))) (hE xp rfl T.n_int L2.E.boot_int (aa (gy Cq (qv 0) ai (jO _)) av))))
   (aj (qz 2 g8.nd (aQ av))
   (aj (mM hU rfl (nh rfl T.n_range (aa (qv 1) av)) (i9 (i:=3) g8.nd rfl (by first|exact Or.inl rfl|exact Or.inr rfl)) (aj (qz 2 g8.nd (aF eD (aQ (aa (aF cf ai (aF bP (qv 0) ai)) av)) (qv 2)))
   (au (qz 0 g8.nd (aF bS (qv 0) ai)))))
   (au (aA (aF eD (aQ (aa (aF cf (qi bU (aQ (aa ai (aa ai (aa ai av)))) (aF qZ (qv 1) ai)) (qv 0)) av)) (qv 2)))))))),
  (aw (aU (ay (aq kf ae ah)) (aB (aS (af ae ax))) aD)
    (aw (aV (aq cj (aq cj ah (gm BU (aq BM ae ah))) (gm BU (aq BM ae ah))))
    (aw (aV (aS ax))
    (aw (yB ae (aw (aV (aq fN (aS (af (aq cj ah (aq bO ae ah)) ax)) ae))
    (aV (aq bR ae ah))))
    (aB (aq fN (aS (af (aq cj (aq pf (aS (af ah (af ah (af ah ax)))) (aq rJ ae ah)) ae) ax)) ae))))))⟩
theorem rG(T:Txt w K mg t):cp P w K mg base (CXE P w) 1 t.hJ t.d_law_hex qT (spP K (cn t) hJ):=
 fG T.jB.F iH fun _ _ _ _ _ _ hr=>⟨_,(aj (qz 2 iH.nd (aQ av))
   (aj (mM hU rfl (nh rfl T.n_range (aa ai av)) (i9 (i:=3) iH.nd rfl (by first|exact Or.inl rfl|exact Or.inr rfl)) (aj (qz 4 iH.nd (aF bP (qv 0) ai))
   (aj (aT (bw kg (qv 4) ai) (au (qz 2 iH.nd (aF eD (aQ (aa (aF cf ai (qv 4)) av)) (qv 2)))) (au (qz 2 iH.nd (aF eD (aQ (aa (aF cf (cP (by exact(cb (qv 1) (fun _=>rfl))) ai ai) (qv 4)) av)) (qv 2)))))
   (au (qz 0 iH.nd (aF bS (qv 0) ai))))))
   (au (aA (aF eD (aQ (aa ai (aa ai av))) (qv 2)))))),
  (aw (aV (aS ax))
    (aw (yB ah (aw (aV (aq bO ae ah))
    (aw (aU (ay (aq kf ae ah)) (aV (aq fN (aS (af (aq cj ah ae) ax)) ae)) (aV (aq fN (aS (af (aq cj (hZ (eN ae) ah ah) ae) ax)) ae)))
    (aV (aq bR ae ah)))))
    (aB (aq fN (aS (af ah (af ah ax))) ae))))⟩
theorem Ak(T:Txt w K mg t):cp P w K mg base (CXE P w) 2 t.iL t.d_law_sign o7 (spP K (cn t) iL):=
 fG T.nC.F lO fun _ _ _ _ _ _ hr=>⟨_,(aj (qz 2 lO.nd (GC (kd ai ai (kd ai ai (kd ai ai (kd ai ai (kd ai ai (kd ai ai (kd ai ai (kd ai ai HY))))))))))
   (aj (qz 3 lO.nd (aF bP (qv 1) ai))
   (aj (aT (jz (i5 (bw bp (qv 3) ai) (i8 (Jv (IV hr) (qv 0) (qv 2))))) (au (aA (aQ (aa ai (aa (Hi (IV hr) (qv 2) (qv 0) (fun _ _=>rfl)) av))))) aE)
   (aj (aT (jz (i5 (bw wW (qv 3) ai) (i5 (bw Cq (qv 0) ai) (i5 (bw IZ (qv 0) ai) (i8 (bw IZ (qv 0) ai)))))) (au (aA (qx (yA T) T.lV hr aN (aa (qv 0) av)))) aE)
   (aj (aT (bw kg (qv 0) ai) (au (aA (qx (rG T) T.jB hr aN (aa (qv 0) (aa (gy bp (qv 3) ai (jO _)) av))))) aE)
   (aj (qz 4 lO.nd (aF qZ (qv 0) ai))
   (au (aA (aF eD (qx (rG T) T.jB hr aN (aa (aF cf ai (aF bS (qv 4) ai)) (aa (gy bp (qv 3) ai (jO _)) av))) (qx (rG T) T.jB hr aN (aa (aF cf ai (aF bP (qv 4) ai)) (aa (gy bp (qv 3) ai (jO _)) av)))))))))))),
  (aw (om (K1 (kvs:=[(34,34),(92,92),(47,47),(8,98),(12,102),(10,110),(13,114),(9,116)]) (by decide) (by decide)))
    (aw (aV (aq bO ae ah))
    (aw (aU (jj (ay (aq bj ae ah)) (ay (G0 ae aP))) (aB (aS (af ah (af (Hd aP ae) ax)))) aD)
    (aw (aU (jj (ay (aq xv ae ah)) (jj (ay (aq BM ae ah)) (jj (ay (aq IH ae ah)) (ay (aq IH ae ah))))) (aB (aR (af ae ax))) aD)
    (aw (aU (ay (aq kf ae ah)) (aB (aR (af ae (af (aq bj ae ah) ax)))) aD)
    (aw (aV (aq rJ ae ah))
    (aB (aq fN (aR (af (aq cj ah (aq bR ae ah)) (af (aq bj ae ah) ax))) (aR (af (aq cj ah (aq bO ae ah)) (af (aq bj ae ah) ax)))))))))))⟩
theorem uv(T:Txt w K mg t):cp P w K mg base (CXE P w) 3 t.fO t.d_law_text pk (spP K (cn t) fO):=
 fG T.jF.F iW fun _ _ _ _ _ _ hr=>⟨_,(aj (qz 2 iW.nd (aQ (aa ai av)))
   (aj (qz 3 iW.nd ai)
   (aj (mM hU rfl (g9 (qv 0)) (i9 (i:=4) iW.nd rfl (by first|exact Or.inl rfl|exact Or.inr rfl)) (aj (qz 2 iW.nd (aF eD (qv 2) (qx (Ak T) T.nC hr aN (aa (qv 4) (aa (aF cf (aF bS (qv 1) (aF cf ai (aF bP (qv 3) ai))) (qv 3)) av)))))
   (au (qz 3 iW.nd (aF cf (qv 3) ai)))))
   (au (aA (aF eD (qv 2) (aQ (aa ai av)))))))),
  (aw (aV (aS (af ah ax)))
    (aw (aV ah)
    (aw (pY ae (aw (aV (aq fN ae (aR (af ae (af (aq cj (aq bR ae (aq cj ah (aq bO ae ah))) ae) ax)))))
    (aV (aq cj ae ah))))
    (aB (aq fN ae (aS (af ah ax)))))))⟩
theorem xY(T:Txt w K mg t):cp P w K mg base (CXE P w) 5 t.fH t.d_law_begin oq (spI K (cn t) fH):=
 vY T.e_law_begin.F i6 fun _ _ _ _ _ _ hr=>⟨_,(aj (qex fM (qv 1) (qx (gX T) T.dS hr aN (aa (aF bS (qv 4) ai) av)))
   (aj (qz 5 i6.nd (cA av))
   (aj (aT (jz (i5 (cb (qv 3) (fun _=>rfl)) (i8 (cb (qi bU (qi bU (qv 3) (mi jf ai)) ai) (fun _=>rfl))))) (aj (qap ck (qv 1) ai)
   (au (qex fM (qv 1) (qx (gX T) T.dS hr aN (aa (aF bS (qv 4) ai) av))))) aE)
   (aj (aT (jz (i5 (cb (qv 3) (fun _=>rfl)) (i8 (bw bp (qi bU (qi bU (qv 3) (mi jf ai)) ai) aM)))) (aj (qz 6 i6.nd (qx (Af T) T.n4 hr aN (aa (qv 0) (aa (aF bS (qv 4) ai) av))))
   (aj (qz 5 i6.nd (hE jW rfl T.n_tuple L2.E.boot_tuple (aa (qv 6) av)))
   (aj (qz 7 i6.nd (qo T.n_len (qv 1)))
   (aj (qex fM (qv 1) (qx (uv T) T.jF hr aN (aa (qv 6) (aa (aF bS (qv 4) ai) av))))
   (aj (qap ck (qv 2) (aQ (aa aM (aa (qv 7) (aa (qo T.n_len (qv 1)) (aa ai av))))))
   (aj (qex fM (qv 1) (qx (gX T) T.dS hr aN (aa (aF bS (qv 4) ai) av)))
   (aj (qap ck (qv 1) ai)
   (au (qex fM (qv 1) (qx (gX T) T.dS hr aN (aa (aF bS (qv 4) ai) av))))))))))) aE)
   (au (aA (qv 5))))))),
  (aw (fR aP (aR (af (aq bR ae ah) ax)))
    (aw (aV (cx ax))
    (aw (aU (jj (gU aP) (eN (fX (jD (jD aP (lX jb ah)) ah)))) (aw (eP aP (lM ah))
    (fR aP (aR (af (aq bR ae ah) ax)))) aD)
    (aw (aU (jj (gU aP) (ay (aq bj (fX (jD (jD aP (lX jb ah)) ah)) aL))) (aw (aV (aR (af ae (af (aq bR ae ah) ax))))
    (aw (aV (gm ye ae))
    (aw (aV (jZ aP))
    (aw (kZ (i:=6) (fR aP (aR (af ae (af (aq bR ae ah) ax)))))
    (aw (eP aP (lM (aS (af aL (af ae (af (jZ aP) (af ah ax)))))))
    (aw (fR aP (aR (af (aq bR ae ah) ax)))
    (aw (eP aP (lM ah))
    (fR aP (aR (af (aq bR ae ah) ax)))))))))) aD)
    nc))))⟩
theorem xH(T:Txt w K mg t):cp P w K mg base (CXE P w) 1 t.fi t.d_law_plain oz (spP K (cn t) fi):=
 fG T.e_law_plain.F oo fun _ _ _ _ _ _ hr=>⟨_,(aj (aT (bw bp (qv 0) ai) (au (aA (cA (aa ai (aa ai av))))) aE)
   (aj (wm hU (bw bp (aF bP (qv 0) ai) ai) (aj (qz 0 oo.nd (aF bS (qv 0) ai))
   (au (qz 1 oo.nd (aF cf (qv 1) ai)))))
   (au (aA (cA (aa (qv 0) (aa (qv 1) av))))))),
  (aw (aU (ay (aq bj ae ah)) (aB (cx (af ah (af ah ax)))) aD)
    (aw (va (ay (aq bj (aq bO ae ah) ah)) (aw (aV (aq bR ae ah))
    (aV (aq cj ae ah))))
    (aB (cx (af ae (af ae ax))))))⟩
theorem wC(T:Txt w K mg t):cp P w K mg base (CXE P w) 2 t.fW t.d_law_number mS (spP K (cn t) fW):=
 fG T.kT.F bH fun _ _ _ _ _ _ hr=>⟨_,(aj (qz 1 bH.nd (gy bp (aF bP (qv 0) ai) ai (jO _)))
   (aj (Ht (i:=2) bH.nd rfl (by first|exact Or.inl rfl|exact Or.inr rfl) (M:=[]) (ι:=[]) (x:="_law_sign_here") ⟨rfl,rfl,rfl,rfl,rfl,rfl,rfl,rfl,rfl,rfl,rfl,by decide +kernel⟩ rfl (E9 (hE sJ rfl T.n_str L2.E.boot_str (aa (aF bP (aF bS (qv 0) ai) ai) av))) fun _ _ _ _=>(hE DA rfl T.n_int L2.E.boot_int (aa (qv 0) av)))
   (aj (qz 3 bH.nd (cP (by exact(cb (qv 1) (fun _=>rfl))) (aQ (aa ai av)) (aQ av)))
   (aj (qz 3 bH.nd (aF eD (qv 3) (lP (M:=[]) (ι:=[]) (x:="_law_figure") ⟨rfl,rfl,rfl,rfl,rfl,rfl,rfl,rfl,rfl,rfl,rfl,by decide +kernel⟩ rfl (g9 (qv 2)) fun _ _ _ _=>(aF cf ai (qv 0)))))
   (aj (qz 4 bH.nd ai)
   (aj (mM hU rfl (g9 (qv 2)) (i9 (i:=5) bH.nd rfl (by first|exact Or.inl rfl|exact Or.inr rfl)) (au (qz 4 bH.nd (aF cf (aF tF (qv 4) ai) (qv 5)))))
   (aj (qz 6 bH.nd ai)
   (aj (aT (bw bp (aF bP (aF bS (qv 0) ai) ai) ai) (aj (qap ck (qv 3) ai)
   (au (mM hU rfl (g9 (oV sf (aQ (aa (aF bP (aF bS (qv 0) ai) ai) (aa (aF bP (aF bS (qv 0) ai) ai) (aa ai av)))) sG (r9 (aF cf ai (aF bP (aF bS (qv 0) ai) ai))))) (i9 (i:=5) bH.nd rfl (by first|exact Or.inl rfl|exact Or.inr rfl)) (aj (qap ck (qv 3) (aF cf ai (qv 5)))
   (aj (qz 4 bH.nd (aF cf (aF tF (qv 4) ai) (qv 5)))
   (au (qz 6 bH.nd (aF qZ (qv 6) ai)))))))) aE)
   (aj (aT (bw bp (aF bP (aF bS (qv 0) ai) ai) ai) (aj (qz 7 bH.nd (aF bP (aF bS (qv 0) ai) ai))
   (aj (qap ck (qv 3) (qi bU (aQ (aa ai (aa ai av))) (aF bP (aF bS (qv 0) ai) ai)))
   (aj (qz 8 bH.nd (gy bp (aF bP (aF bS (qv 0) ai) ai) ai (jO _)))
   (aj (aT (cb (qv 8) (fun _=>rfl)) (au (qap ck (qv 3) ai)) (au (aT (bw bp (aF bP (aF bS (qv 0) ai) ai) ai) (au (qap ck (qv 3) ai)) aE)))
   (aj (aT (bw bp (aF bP (aF bS (qv 0) ai) ai) ai) (au (qap ck (qv 3) ai)) aE)
   (aj (qz 3 bH.nd (aF eD (qv 3) (lP (M:=[]) (ι:=[]) (x:="_law_sign_here") ⟨rfl,rfl,rfl,rfl,rfl,rfl,rfl,rfl,rfl,rfl,rfl,by decide +kernel⟩ rfl (E9 (hE sJ rfl T.n_str L2.E.boot_str (aa (qv 7) av))) fun _ _ _ _=>(ji E8 rfl T.n_ord L2.E.boot_ord (aa (qv 0) av)))))
   (au (qz 6 bH.nd (aF cf (qv 6) (cP (by exact(cb (qv 8) (fun _=>rfl))) (mi jf (qv 7)) (qv 7))))))))))) aE)
   (aj (aT (cb (qv 1) (fun _=>rfl)) (au (qz 4 bH.nd (mi jf (qv 4)))) aE)
   (au (aA (cA (aa (qv 3) (aa (qx (xH T) T.e_law_plain hr aN (aa (qv 4) (aa (qv 6) av))) av))))))))))))))),
  (aw (aV (aq bj (aq bO ae ah) ah))
    (aw (aV (zN (by decide) (gm FK (aq bO (aq bR ae ah) ah)) (gm HV ae)))
    (aw (aV (hZ (eN ae) (aS (af ah ax)) (aS ax)))
    (aw (aV (aq fN ae (sU (by decide) ae (aq cj ah ae))))
    (aw (aV ah)
    (aw (kZ (i:=2) (pY ae (aV (aq cj (aq uc ae ah) ae))))
    (aw (aV ah)
    (aw (aU (ay (aq bj (aq bO (aq bR ae ah) ah) ah)) (aw (lb ah)
    (pY (wy (aS (af (aq bO (aq bR ae ah) ah) (af (aq bO (aq bR ae ah) ah) (af ah ax)))) sy (rZ (aq cj ah (aq bO (aq bR ae ah) ah)))) (aw (lb (aq cj ah ae))
    (aw (aV (aq cj (aq uc ae ah) ae))
    (aV (aq rJ ae ah)))))) aD)
    (aw (aU (ay (aq bj (aq bO (aq bR ae ah) ah) ah)) (aw (aV (aq bO (aq bR ae ah) ah))
    (aw (lb (aq pf (aS (af ah (af ah ax))) (aq bO (aq bR ae ah) ah)))
    (aw (aV (aq bj (aq bO (aq bR ae ah) ah) ah))
    (aw (aU (eN ae) (lb ah) (aU (ay (aq bj (aq bO (aq bR ae ah) ah) ah)) (lb ah) aD))
    (aw (aU (ay (aq bj (aq bO (aq bR ae ah) ah) ah)) (lb ah) aD)
    (aw (aV (aq fN ae (zN (by decide) (gm FK ae) (gm LB ae))))
    (aV (aq cj ae (hZ (eN ae) (lX jb ae) ae))))))))) aD)
    (aw (aU (eN ae) (aV (lX jb ae)) aD)
    (kZ (i:=3) (aB (cx (af ae (af (aR (af ae (af ae ax))) ax)))))))))))))))⟩
theorem rh(T:Txt w K mg t):cp P w K mg base (CXE P w) 4 t.cu t.d_law_plain_value iG (spP K (cn t) cu):=
 fG T.e_law_plain_value.F fZ fun _ _ _ _ _ _ hr=>⟨_,(aj (qz 2 fZ.nd (aF bP (aF bS (qv 1) ai) ai))
   (aj (aT (bw bp (qv 2) ai) (au (aA (cA (aa aM (aa (aQ (aa ai (aa ai (aa ai (aa ai av))))) (aa cI av)))))) aE)
   (aj (aT (bw bp (qv 2) ai) (au (aA (cA (aa aM (aa (aQ (aa ai (aa ai (aa ai (aa ai av))))) (aa vv av)))))) aE)
   (aj (aT (bw bp (qv 2) ai) (au (aA (cA (aa aM (aa (aQ (aa ai (aa ai (aa ai (aa ai (aa ai av)))))) (aa vv av)))))) aE)
   (aj (aT (bw bp (qv 2) ai) (aj (qz 3 fZ.nd (qx (qS T) T.gV hr aN (aa (qv 0) (aa (aF cf ai (aF bP (qv 1) ai)) av))))
   (au (aA (cA (aa aM (aa (qx (uv T) T.jF hr aN (aa (qv 3) (aa (aF bS (qv 1) ai) av))) (aa (cA (aa aM (aa (hE jW rfl T.n_tuple L2.E.boot_tuple (aa (qv 3) av)) av))) av))))))) aE)
   (aj (qz 4 fZ.nd (qx (wC T) T.kT hr aN (aa (aF bS (qv 1) ai) av)))
   (au (aA (cA (aa aM (aa (qi dU (qv 4) ai) (aa (cA (aa aM (aa (qi dU (qi dU (qv 4) ai) ai) (aa (qi dU (qi dU (qv 4) ai) ai) av)))) av)))))))))))),
  (aw (aV (aq bO (aq bR ae ah) ah))
    (aw (aU (ay (aq bj ae ah)) (aB (cx (af aL (af (aS (af ah (af ah (af ah (af ah ax))))) (af cG ax))))) aD)
    (aw (aU (ay (aq bj ae ah)) (aB (cx (af aL (af (aS (af ah (af ah (af ah (af ah ax))))) (af vh ax))))) aD)
    (aw (aU (ay (aq bj ae ah)) (aB (cx (af aL (af (aS (af ah (af ah (af ah (af ah (af ah ax)))))) (af vh ax))))) aD)
    (aw (aU (ay (aq bj ae ah)) (aw (aV (aR (af ae (af (aq cj ah (aq bO ae ah)) ax))))
    (kZ (i:=3) (aB (cx (af aL (af (aR (af ae (af (aq bR ae ah) ax))) (af (cx (af aL (af (gm ye ae) ax))) ax))))))) aD)
    (aw (aV (aR (af (aq bR ae ah) ax)))
    (aB (cx (af aL (af (aq dR ae ah) (af (cx (af aL (af (aq dR (aq dR ae ah) ah) (af (aq dR (aq dR ae ah) ah) ax)))) ax)))))))))))⟩
theorem yO(T:Txt w K mg t):cp P w K mg base (CXE P w) 6 t.gC t.d_law_built nj (spP K (cn t) gC):=
 fG T.e_law_built.F cq fun _ _ _ _ _ _ hr=>⟨_,(aj (qz 2 cq.nd (aQ av))
   (aj (qz 3 cq.nd (aQ av))
   (aj (qz 4 cq.nd (aQ av))
   (aj (qz 5 cq.nd cI)
   (aj (mM hU rfl (nh rfl T.n_range (aa (qv 1) av)) (i9 (i:=6) cq.nd rfl (by first|exact Or.inl rfl|exact Or.inr rfl)) (aj (qz 7 cq.nd (qx (jH T) T.dJ hr aN (aa (qv 0) (aa (qv 6) av))))
   (au (aT (jz (i5 (cb (qv 4) (fun _=>rfl)) (i8 (bw bp (aF bP (qv 7) ai) ai)))) (aj (qex fM (qv 2) (qx (gX T) T.dS hr aN (aa (aF bS (qv 7) ai) av)))
   (au (qz 5 cq.nd (qx (sE T) T.e_law_close hr aN (aa (qv 2) (aa (qv 3) (aa (qv 4) av))))))) (au (aT (jz (uu (cb (qv 4) (fun _=>rfl)) (rH (bw bp (qv 6) ai)))) (aj (qz 8 cq.nd (qx (xY T) T.e_law_begin hr aN (aa (qv 0) (aa (qv 2) (aa (qv 3) (aa (qv 4) (aa (qv 7) av)))))))
   (aj (qz 9 cq.nd (qo T.n_len (qv 2)))
   (au (aT (jz (uu (bw wW (aF bP (qv 7) ai) ai) (rH (jz (i5 (bw bp (qv 6) ai) (i8 (bw wW (aF bP (qv 7) ai) ai))))))) (aj (qz 10 cq.nd (qi bU (aQ (aa aM (aa aM av))) (aF bP (aF bS (qv 7) ai) ai)))
   (aj (qap ck (qv 2) (cP (by exact(bw bp (qv 10) aM)) ai ai))
   (aj (qap ck (qv 4) (aQ (aa (qv 10) (aa (aQ av) (aa (qo T.n_len (qv 3)) (aa (qv 8) av))))))
   (au (qap ck (qv 3) (aQ (aa (qv 10) (aa (qv 9) (aa ai (aa ai av)))))))))) (aj (qz 11 cq.nd (qx (rh T) T.e_law_plain_value hr aN (aa (qv 0) (aa (qv 7) av))))
   (aj (qex fM (qv 2) (qi dU (qv 11) ai))
   (aj (qap ck (qv 3) (aQ (aa (qi dU (qv 11) ai) (aa (qv 9) (aa (qo T.n_len (qv 2)) (aa (aF cf (qo T.n_len (qv 3)) ai) av))))))
   (aj (qz 5 cq.nd (qi dU (qv 11) ai))
   (au (aT (jz (i5 (cb (qv 4) (fun _=>rfl)) (i8 (bw bp (qi bU (qi bU (qv 4) (mi jf ai)) ai) aM)))) (aj (yz (qo T.n_len (qv 3)) (yn (qi bU (qv 3) (mi jf ai)) ai set_list))
   (au (qap ck (qi bU (qi bU (qv 4) (mi jf ai)) ai) (cA (aa (qv 8) (aa (qv 5) av)))))) (au (aT (cb (qv 4) (fun _=>rfl)) (au (qap ck (qi bU (qi bU (qv 4) (mi jf ai)) ai) (qv 5))) aE)))))))))))) aE))))))
   (aj (wm hU (cb (qv 4) (fun _=>rfl)) (au (qz 5 cq.nd (qx (sE T) T.e_law_close hr aN (aa (qv 2) (aa (qv 3) (aa (qv 4) av)))))))
   (aj (qex fM (qv 2) (qx (gX T) T.dS hr aN (aa (qx (jH T) T.dJ hr aN (aa (qv 0) (aa ai av))) av)))
   (au (aA (cA (aa (qv 2) (aa (lP (M:=[]) (ι:=[]) (x:="_law_node") ⟨rfl,rfl,rfl,rfl,rfl,rfl,rfl,rfl,rfl,rfl,rfl,by decide +kernel⟩ rfl (g9 (qv 3)) fun _ _ _ _=>(hE jW rfl T.n_tuple L2.E.boot_tuple (aa (qv 0) av))) (aa (qv 5) av))))))))))))),
  (aw (om (lM (aS ax)))
    (aw (om (lM (aS ax)))
    (aw (om (lM (aS ax)))
    (aw (aV cG)
    (aw (yB ae (aw (aV (aR (af ae (af ae ax))))
    (aU (jj (gU aP) (ay (aq bj (aq bO ae ah) ah))) (aw (fR aP (aR (af (aq bR ae ah) ax)))
    (nN (vD rfl (fg (oB aP) (fg (oB aP) (fg (oB aP) mf)))))) (aU (uj (gU aP) (ay (aq bj ae ah))) (aw (nN (vD rfl (fg (zh (W:=fun _ _ _ _=>False) ae) (fg (oB aP) (fg (oB aP) (fg (oB aP) (fg (zh (W:=fun _ _ _ _=>False) ae) mf)))))))
    (aw (aV (jZ aP))
    (aU (uj (ay (aq xv (aq bO ae ah) ah)) (jj (ay (aq bj ae ah)) (ay (aq xv (aq bO ae ah) ah)))) (aw (aV (aq pf (aS (af aL (af aL ax))) (aq bO (aq bR ae ah) ah)))
    (aw (eP aP (lM (hZ (ay (aq bj ae aL)) ah ah)))
    (aw (eP aP (KW (rN (lM ae) (rN (lM (aS ax)) (rN (lM (jZ aP)) (rN (lM ae) Gv))))))
    (eP aP (lM (aS (af ae (af ae (af ah (af ah ax)))))))))) (aw (aV (aR (af ae (af ae ax))))
    (aw (fR aP (aq dR ae ah))
    (aw (eP aP (lM (aS (af (aq dR ae ah) (af ae (af (jZ aP) (af (aq cj (jZ aP) ah) ax)))))))
    (aw (aV (aq dR ae ah))
    (aU (jj (gU aP) (ay (aq bj (fX (jD (jD aP (lX jb ah)) ah)) aL))) (aw (uY (jD aP (lX jb ah)) ah (lM (jZ aP)))
    (eP (jD (jD aP (lX jb ah)) ah) (lM (cx (af ae (af ae ax)))))) (aU (gU aP) (eP (jD (jD aP (lX jb ah)) ah) (lM ae)) aD))))))))) aD))))
    (aw (va (gU aP) (nN (vD rfl (fg (oB aP) (fg (oB aP) (fg (oB aP) mf))))))
    (aw (fR aP (aR (af (aR (af ae (af ah ax))) ax)))
    (qX (i:=3) (qX (i:=2) (aB (cx (af ae (af (sU (by decide) ae (gm ye ae)) (af ae ax))))))))))))))⟩
theorem m9(T:Txt w K mg t):cp P w K mg base (CXE P w) 1 t.cg t.d_Walk___init__ jK (spI K (cn t) cg):=
 vY T.F_Walk___init__ tE fun _ _ _ _ _ _ hr=>⟨_,(au (Jj (qv 0) (aQ (aa aM (aa aM (aa aM av)))))),
  (Gz aP (lM (aS (af aL (af aL (af aL ax))))) (gJ T))⟩
theorem xS(T:Txt w K mg t):cp P w K mg base (CXE P w) 1 t.eY t.d_word_rest nu (spP K (cn t) eY):=
 fG T.e_word_rest.F xM fun _ _ _ _ _ _ hr=>⟨_,(au (aA (yV (ba rfl T.m_WORDS T.r_WORDS) (qv 0)))),
  (aB (zR T.q_WORDS ae))⟩
theorem nQ(T:Txt w K mg t):cp P w K mg base (CXE P w) 1 t.eW t.d_is_figure nL (spP K (cn t) eW):=
 fG T.fJ.F yq fun _ _ _ _ _ _ hr=>⟨_,(au (aA (Ef mq mq (ba rfl T.m_NOUGHT T.r_NOUGHT) (qv 0) (ba rfl T.m_NINE T.r_NINE)))),
  (aB (iA my my ah ae ah))⟩
theorem pP(T:Txt w K mg t):cp P w K mg base (CXE P w) 2 t.dP t.d_behind_lead lr (spP K (cn t) dP):=
 fG T.gg.F v7 fun _ _ _ _ _ _ hr=>⟨_,(aj (aT (bw bp (qv 0) (ba rfl T.m_NOUGHT T.r_NOUGHT)) (au (aA (aQ (aa aM (aa aM av))))) aE)
   (aj (aT (cb (qx (nQ T) T.fJ hr aN (aa (qv 0) av)) (fun _=>rfl)) (au (aA (aQ (aa aM (aa aM (aa aM av)))))) aE)
   (au (aA cI)))),
  (aw (aU (ay (aq bj ae ah)) (aB (aS (af aL (af aL ax)))) aD)
    (aw (aU (eN (aR (af ae ax))) (aB (aS (af aL (af aL (af aL ax))))) aD)
    (aB cG)))⟩
theorem oA(T:Txt w K mg t):cp P w K mg base (CXE P w) 3 t.bM t.d_behind_value kD (spP K (cn t) bM):=
 fG T.fF.F oG fun _ _ _ _ _ _ hr=>⟨_,(aj (aT (bw bp (qv 0) (ba rfl T.m_ROW_BEGIN T.r_ROW_BEGIN)) (au (aA (aQ (aa aM (aa aM av))))) aE)
   (aj (aT (bw bp (qv 0) (ba rfl T.m_FIELDS_BEGIN T.r_FIELDS_BEGIN)) (au (aA (aQ (aa aM (aa aM av))))) aE)
   (aj (aT (bw bp (qv 0) (ba rfl T.m_QUOTE T.r_QUOTE)) (au (aA (aQ (aa aM av)))) aE)
   (aj (aT (bw bp (qv 0) (ba rfl T.m_MINUS T.r_MINUS)) (au (aA (aQ (aa aM av)))) aE)
   (aj (qz 1 oG.nd (qx (xS T) T.e_word_rest hr aN (aa (qv 0) av)))
   (aj (aT (bw yN (qv 1) cI) (au (aA (lP (M:=[]) (ι:=[]) (x:="sign") ⟨rfl,rfl,rfl,rfl,rfl,rfl,rfl,rfl,rfl,rfl,rfl,by decide +kernel⟩ rfl (Lc (qv 1)) fun _ _ _ _=>(cA (aa (qv 0) (aa (qv 0) av)))))) aE)
   (au (aA (qx (pP T) T.gg hr aN (aa (qv 0) av)))))))))),
  (aw (aU (ay (aq bj ae ah)) (aB (aS (af aL (af aL ax)))) aD)
    (aw (aU (ay (aq bj ae ah)) (aB (aS (af aL (af aL ax)))) aD)
    (aw (aU (ay (aq bj ae ah)) (aB (aS (af aL ax))) aD)
    (aw (aU (ay (aq bj ae ah)) (aB (aS (af aL ax))) aD)
    (aw (aV (aR (af ae ax)))
    (aw (aU (ay (aq yF ae cG)) (aB (EM (by decide) ae (cx (af ae (af ae ax))))) aD)
    (aB (aR (af ae ax)))))))))⟩
theorem qg(T:Txt w K mg t):cp P w K mg base (CXE P w) 3 t.aX t.d_behind_in_number ia (spP K (cn t) aX):=
 fG T.e_behind_in_number.F qd fun _ _ _ _ _ _ hr=>⟨_,(aj (aT (bw bp (qv 0) aM) (au (aA (qx (pP T) T.gg hr aN (aa (qv 1) av)))) aE)
   (aj (aT (bw bp (qv 0) aM) (au (aA (cP (by exact(cb (qx (nQ T) T.fJ hr aN (aa (qv 1) av)) (fun _=>rfl))) (aQ (aa aM av)) cI))) aE)
   (aj (aT (bw bp (qv 0) aM) (au (aA (cP (by exact(bw bp (qv 1) (ba rfl T.m_POINT T.r_POINT))) (aQ (aa (cA (aa (ba rfl T.m_NOUGHT T.r_NOUGHT) (aa (ba rfl T.m_NINE T.r_NINE) av))) (aa aM av))) cI))) aE)
   (aj (aT (bw bp (qv 0) aM) (au (aA (cP (by exact(iD lL (qv 1) (cA (aa (ba rfl T.m_SMALL_E T.r_SMALL_E) (aa (ba rfl T.m_BIG_E T.r_BIG_E) av))) rfl)) (aQ (aa aM (aa (cA (aa (ba rfl T.m_NOUGHT T.r_NOUGHT) (aa (ba rfl T.m_NINE T.r_NINE) av))) (aa aM av)))) cI))) aE)
   (au (aA (cP (by exact(iD lL (qv 1) (cA (aa (ba rfl T.m_PLUS T.r_PLUS) (aa (ba rfl T.m_MINUS T.r_MINUS) av))) rfl)) (aQ av) cI))))))),
  (aw (aU (ay (aq bj ae aL)) (aB (aR (af ae ax))) aD)
    (aw (aU (ay (aq bj ae aL)) (aB (hZ (eN (aR (af ae ax))) (aS (af aL ax)) cG)) aD)
    (aw (aU (ay (aq bj ae aL)) (aB (hZ (ay (aq bj ae ah)) (aS (af (cx (af ah (af ah ax))) (af aL ax))) cG)) aD)
    (aw (aU (ay (aq bj ae aL)) (aB (hZ (ay (aq (pR hr.units) ae (cx (af ah (af ah ax))))) (aS (af aL (af (cx (af ah (af ah ax))) (af aL ax)))) cG)) aD)
    (aB (hZ (ay (aq (pR hr.units) ae (cx (af ah (af ah ax))))) (aS ax) cG))))))⟩
theorem sj(T:Txt w K mg t):cp P w K mg base (CXE P w) 2 t.fK t.d_hex_worth oy (spP K (cn t) fK):=
 fG T.iX.F x4 fun _ _ _ _ _ _ hr=>⟨_,(aj (aT (cb (qx (nQ T) T.fJ hr aN (aa (qv 0) av)) (fun _=>rfl)) (au (aA (aF qZ (qv 0) (ba rfl T.m_NOUGHT T.r_NOUGHT)))) aE)
   (aj (aT (ja mq mq ai (qv 0) ai) (au (aA (aF qZ (qv 0) ai))) aE)
   (aj (aT (ja mq mq ai (qv 0) ai) (au (aA (aF qZ (qv 0) ai))) aE)
   (au (aA cI))))),
  (aw (aU (eN (aR (af ae ax))) (aB (aq rJ ae ah)) aD)
    (aw (aU (ay (iA my my ah ae ah)) (aB (aq rJ ae ah)) aD)
    (aw (aU (ay (iA my my ah ae ah)) (aB (aq rJ ae ah)) aD)
    (aB cG))))⟩
theorem tL(T:Txt w K mg t):cp P w K mg base (CXE P w) 1 t.dC t.d_behind_code_d jG (spP K (cn t) dC):=
 fG T.iE.F mY fun _ _ _ _ _ _ hr=>⟨_,(aj (aT (bw kg (qv 0) ai) (au (aA (aQ (aa aM (aa aM av))))) aE)
   (aj (aT (bw kg (qv 0) ai) (aj (qz 1 mY.nd (aQ (aa (cA (aa (ba rfl T.m_BACKSLASH T.r_BACKSLASH) (aa (ba rfl T.m_BACKSLASH T.r_BACKSLASH) av))) (aa (cA (aa (ba rfl T.m_SMALL_U T.r_SMALL_U) (aa (ba rfl T.m_SMALL_U T.r_SMALL_U) av))) (aa aM (aa aM (aa aM (aa aM av))))))))
   (au (aA (aF eD (aQ (aa aM (aa aM av))) (qv 1))))) aE)
   (au (aA cI)))),
  (aw (aU (ay (aq kf ae ah)) (aB (aS (af aL (af aL ax)))) aD)
    (aw (aU (ay (aq kf ae ah)) (aw (aV (aS (af (cx (af ah (af ah ax))) (af (cx (af ah (af ah ax))) (af aL (af aL (af aL (af aL ax))))))))
    (aB (aq fN (aS (af aL (af aL ax))) ae))) aD)
    (aB cG)))⟩
theorem rD(T:Txt w K mg t):cp P w K mg base (CXE P w) 1 t.cR t.d_second_of_three iP (spP K (cn t) cR):=
 fG T.e_second_of_three.F rn fun _ _ _ _ _ _ hr=>⟨_,(aj (aT (bw bp (qv 0) ai) (au (aA (cA (aa ai (aa ai av))))) aE)
   (aj (aT (bw bp (qv 0) ai) (au (aA (cA (aa ai (aa ai av))))) aE)
   (au (aA (ba rfl T.m_TAIL T.r_TAIL))))),
  (aw (aU (ay (aq bj ae ah)) (aB (cx (af ah (af ah ax)))) aD)
    (aw (aU (ay (aq bj ae ah)) (aB (cx (af ah (af ah ax)))) aD)
    (aB (nW T.q_TAIL))))⟩
theorem rP(T:Txt w K mg t):cp P w K mg base (CXE P w) 1 t.dm t.d_second_of_four jw (spP K (cn t) dm):=
 fG T.e_second_of_four.F su fun _ _ _ _ _ _ hr=>⟨_,(aj (aT (bw bp (qv 0) ai) (au (aA (cA (aa ai (aa ai av))))) aE)
   (aj (aT (bw bp (qv 0) ai) (au (aA (cA (aa ai (aa ai av))))) aE)
   (au (aA (ba rfl T.m_TAIL T.r_TAIL))))),
  (aw (aU (ay (aq bj ae ah)) (aB (cx (af ah (af ah ax)))) aD)
    (aw (aU (ay (aq bj ae ah)) (aB (cx (af ah (af ah ax)))) aD)
    (aB (nW T.q_TAIL))))⟩
theorem Fw(T:Txt w K mg t):cp P w K mg base (CXE P w) 2 t.jr t.d_tails vO (spP K (cn t) jr):=
 fG T.e_tails.F FO fun _ _ _ _ _ _ hr=>⟨_,(aj (aT (ja mq kg ai (qv 0) ai) (au (aA (aQ av))) aE)
   (aj (aT (ja mq kg ai (qv 0) ai) (au (aA (aQ (aa (ba rfl T.m_TAIL T.r_TAIL) av)))) aE)
   (aj (aT (ja mq kg ai (qv 0) ai) (au (aA (aQ (aa (qx (rD T) T.e_second_of_three hr aN (aa (qv 0) av)) (aa (ba rfl T.m_TAIL T.r_TAIL) av))))) aE)
   (aj (aT (ja mq kg ai (qv 0) ai) (au (aA (aQ (aa (qx (rP T) T.e_second_of_four hr aN (aa (qv 0) av)) (aa (ba rfl T.m_TAIL T.r_TAIL) (aa (ba rfl T.m_TAIL T.r_TAIL) av)))))) aE)
   (au (aA cI)))))),
  (aw (aU (ay (iA my kf ah ae ah)) (aB (aS ax)) aD)
    (aw (aU (ay (iA my kf ah ae ah)) (aB (aS (af (nW T.q_TAIL) ax))) aD)
    (aw (aU (ay (iA my kf ah ae ah)) (aB (aS (af (aR (af ae ax)) (af (nW T.q_TAIL) ax)))) aD)
    (aw (aU (ay (iA my kf ah ae ah)) (aB (aS (af (aR (af ae ax)) (af (nW T.q_TAIL) (af (nW T.q_TAIL) ax))))) aD)
    (aB cG)))))⟩
theorem qj(T:Txt w K mg t):cp P w K mg base (CXE P w) 3 t.bW t.d_behind_character ib (spP K (cn t) bW):=
 fG T.fY.F kJ fun _ _ _ _ _ _ hr=>⟨_,(aj (aT (bw bp (qv 0) (ba rfl T.m_QUOTE T.r_QUOTE)) (au (aA (aQ av))) aE)
   (aj (aT (bw bp (qv 0) (ba rfl T.m_BACKSLASH T.r_BACKSLASH)) (au (aA (aQ (aa aM (aa aM av))))) aE)
   (aj (qz 1 kJ.nd (qx (Fw T) T.e_tails hr aN (aa (qv 0) av)))
   (aj (aT (jz (uu (bw kg (qv 0) (ba rfl T.m_BLANK T.r_BLANK)) (rH (bw sX (qv 1) cI)))) (au (aA cI)) aE)
   (au (aA (aF eD (qv 1) (aQ (aa aM av))))))))),
  (aw (aU (ay (aq bj ae ah)) (aB (aS ax)) aD)
    (aw (aU (ay (aq bj ae ah)) (aB (aS (af aL (af aL ax)))) aD)
    (aw (aV (aR (af ae ax)))
    (aw (aU (uj (ay (aq kf ae ah)) (ay (aq tG ae cG))) (aB cG) aD)
    (aB (aq fN ae (aS (af aL ax))))))))⟩
theorem uE(T:Txt w K mg t):cp P w K mg base (CXE P w) 1 t.bN t.d_short_escape kC (spP K (cn t) bN):=
 fG T.jx.F uH fun _ _ _ _ _ _ hr=>⟨_,(au (aA (yV (ba rfl T.m_SHORT_ESCAPES T.r_SHORT_ESCAPES) (qv 0)))),
  (aB (zR T.q_SHORT_ESCAPES ae))⟩
theorem qk(T:Txt w K mg t):cp P w K mg base (CXE P w) 2 t.cy t.d_behind_backslash ig (spP K (cn t) cy):=
 fG T.fS.F qe fun _ _ _ _ _ _ hr=>⟨_,(aj (aT (bw bp (qv 0) (ba rfl T.m_SMALL_U T.r_SMALL_U)) (au (aA (aQ (aa aM av)))) aE)
   (au (aA (cP (by exact(bw sX (qx (uE T) T.jx hr aN (aa (qv 0) av)) cI)) cI (aQ av))))),
  (aw (aU (ay (aq bj ae ah)) (aB (aS (af aL ax))) aD)
    (aB (hZ (ay (aq tG (aR (af ae ax)) cG)) cG (aS ax))))⟩
theorem sV(T:Txt w K mg t):cp P w K mg base (CXE P w) 4 t.bJ t.d_behind_in_text js (spP K (cn t) bJ):=
 fG T.e_behind_in_text.F mB fun _ _ _ _ _ _ hr=>⟨_,(aj (aT (bw bp (qv 0) aM) (au (aA (qx (qj T) T.fY hr aN (aa (qv 1) av)))) aE)
   (aj (aT (bw bp (qv 0) aM) (au (aA (qx (qk T) T.fS hr aN (aa (qv 1) av)))) aE)
   (aj (qz 2 mB.nd (qx (sj T) T.iX hr aN (aa (qv 1) av)))
   (aj (aT (bw sX (qv 2) cI) (au (aA cI)) aE)
   (aj (aT (bw bp (qv 0) aM) (au (aA (cP (by exact(bw bp (qv 2) ai)) (aQ (aa aM av)) (aQ (aa aM (aa aM (aa aM av))))))) aE)
   (au (aA (qx (tL T) T.iE hr aN (aa (qv 2) av))))))))),
  (aw (aU (ay (aq bj ae aL)) (aB (aR (af ae ax))) aD)
    (aw (aU (ay (aq bj ae aL)) (aB (aR (af ae ax))) aD)
    (aw (aV (aR (af ae ax)))
    (aw (aU (ay (aq tG ae cG)) (aB cG) aD)
    (aw (aU (ay (aq bj ae aL)) (aB (hZ (ay (aq bj ae ah)) (aS (af aL ax)) (aS (af aL (af aL (af aL ax)))))) aD)
    (aB (aR (af ae ax))))))))⟩
theorem wz(T:Txt w K mg t):cp P w K mg base (CXE P w) 3 t.dy t.d_behind_hex mI (spP K (cn t) dy):=
 fG T.e_behind_hex.F qI fun _ _ _ _ _ _ hr=>⟨_,(aj (qz 2 qI.nd (qx (sj T) T.iX hr aN (aa (qv 1) av)))
   (aj (aT (bw sX (qv 2) cI) (au (aA cI)) aE)
   (aj (aT (bw bp (qv 0) aM) (au (aA (cP (by exact(bw bp (qv 2) ai)) (aQ av) cI))) aE)
   (aj (aT (bw bp (qv 0) aM) (au (aA (cP (by exact(bw Cq (qv 2) ai)) (aQ av) cI))) aE)
   (au (aA (aQ av))))))),
  (aw (aV (aR (af ae ax)))
    (aw (aU (ay (aq tG ae cG)) (aB cG) aD)
    (aw (aU (ay (aq bj ae aL)) (aB (hZ (ay (aq bj ae ah)) (aS ax) cG)) aD)
    (aw (aU (ay (aq bj ae aL)) (aB (hZ (ay (aq BM ae ah)) (aS ax) cG)) aD)
    (aB (aS ax))))))⟩
theorem qf(T:Txt w K mg t):cp P w K mg base (CXE P w) 4 t.b7 t.d_behind_row_begin ij (spP K (cn t) b7):=
 fG T.fL.F kK fun _ _ _ _ _ _ hr=>⟨_,(aj (aT (bw bp (qv 0) (ba rfl T.m_ROW_END T.r_ROW_END)) (au (aA (aQ av))) aE)
   (aj (qz 1 kK.nd (qx (oA T) T.fF hr aN (aa (qv 0) av)))
   (au (aA (cP (by exact(bw sX (qv 1) cI)) cI (aF eD (qv 1) (aQ (aa aM (aa aM av))))))))),
  (aw (aU (ay (aq bj ae ah)) (aB (aS ax)) aD)
    (aw (aV (aR (af ae ax)))
    (aB (hZ (ay (aq tG ae cG)) cG (aq fN ae (aS (af aL (af aL ax))))))))⟩
theorem pq(T:Txt w K mg t):cp P w K mg base (CXE P w) 1 t.eE t.d_member_rest lD (spP K (cn t) eE):=
 fG T.dq.F vV fun _ _ _ _ _ _ hr=>⟨_,(au (aA (aQ (aa aM (aa (cA (aa (ba rfl T.m_COLON T.r_COLON) (aa (ba rfl T.m_COLON T.r_COLON) av))) (aa aM (aa aM (aa aM (aa aM av))))))))),
  (aB (aS (af aL (af (cx (af ah (af ah ax))) (af aL (af aL (af aL (af aL ax))))))))⟩
theorem nP(T:Txt w K mg t):cp P w K mg base (CXE P w) 2 t.bY t.d_behind_fields_begin fQ (spP K (cn t) bY):=
 fG T.eQ.F ot fun _ _ _ _ _ _ hr=>⟨_,(aj (aT (bw bp (qv 0) (ba rfl T.m_FIELDS_END T.r_FIELDS_END)) (au (aA (aQ av))) aE)
   (au (aA (cP (by exact(bw bp (qv 0) (ba rfl T.m_QUOTE T.r_QUOTE))) (aF eD (aQ (aa aM av)) (wV ((pq T).mono (by decide)) hr rfl T.dq.m T.dq.F.kp T.dq.b aN)) cI)))),
  (aw (aU (ay (aq bj ae ah)) (aB (aS ax)) aD)
    (aB (hZ (ay (aq bj ae ah)) (aq fN (aS (af aL ax)) (aR ax)) cG)))⟩
theorem oM(T:Txt w K mg t):cp P w K mg base (CXE P w) 5 t.bc t.d_behind_in_brackets gj (spP K (cn t) bc):=
 fG T.e_behind_in_brackets.F oN fun _ _ _ _ _ _ hr=>⟨_,(aj (aT (bw bp (qv 0) aM) (au (aA (qx (qf T) T.fL hr aN (aa (qv 1) av)))) aE)
   (aj (aT (bw bp (qv 0) aM) (au (aA (qx (nP T) T.eQ hr aN (aa (qv 1) av)))) aE)
   (aj (aT (bw bp (qv 0) aM) (aj (aT (bw bp (qv 1) (ba rfl T.m_COMMA T.r_COMMA)) (au (aA (aQ (aa aM (aa aM (aa aM (aa aM av))))))) aE)
   (au (aA (cP (by exact(bw bp (qv 1) (ba rfl T.m_ROW_END T.r_ROW_END))) (aQ av) cI)))) aE)
   (aj (aT (bw bp (qv 1) (ba rfl T.m_COMMA T.r_COMMA)) (au (aA (aF eD (aQ (aa aM (aa aM av))) (wV ((pq T).mono (by decide)) hr rfl T.dq.m T.dq.F.kp T.dq.b aN)))) aE)
   (au (aA (cP (by exact(bw bp (qv 1) (ba rfl T.m_FIELDS_END T.r_FIELDS_END))) (aQ av) cI))))))),
  (aw (aU (ay (aq bj ae aL)) (aB (aR (af ae ax))) aD)
    (aw (aU (ay (aq bj ae aL)) (aB (aR (af ae ax))) aD)
    (aw (aU (ay (aq bj ae aL)) (aw (aU (ay (aq bj ae ah)) (aB (aS (af aL (af aL (af aL (af aL ax)))))) aD)
    (aB (hZ (ay (aq bj ae ah)) (aS ax) cG))) aD)
    (aw (aU (ay (aq bj ae ah)) (aB (aq fN (aS (af aL (af aL ax))) (aR ax))) aD)
    (aB (hZ (ay (aq bj ae ah)) (aS ax) cG))))))⟩
theorem zC(T:Txt w K mg t):cp P w K mg base (CXE P w) 1 t.iO t.d_is_white o5 (spP K (cn t) iO):=
 fG T.og.F Aj fun _ _ _ _ _ _ hr=>⟨_,(au (aA (gy lL (qv 0) (ba rfl T.m_WHITE T.r_WHITE) rfl))),
  (aB (aq (pR hr.units) ae (nW T.q_WHITE)))⟩
theorem CN(T:Txt w K mg t):cp P w K mg base (CXE P w) 6 t.ke t.d_behind tP (spP K (cn t) ke):=
 fG T.rR.F CH fun _ _ _ _ _ _ hr=>⟨_,(aj (aT (cb (ji pD rfl T.n_isinstance L2.E.boot_isinstance (aa (qv 0) (aa (sq (v:=.ty _) rfl T.n_tuple L2.E.boot_tuple rfl) av))) (fun _=>rfl)) (au (aA (cP (by exact(ja mq mq (qi dU (qv 0) ai) (qv 1) (qi dU (qv 0) ai))) (aQ av) cI))) aE)
   (aj (aT (iD lL (qv 0) (cA (aa aM (aa aM (aa aM (aa aM (aa aM av)))))) rfl) (au (aA (qx (qg T) T.e_behind_in_number hr aN (aa (qv 0) (aa (qv 1) av))))) aE)
   (aj (aT (iD lL (qv 0) (cA (aa aM (aa aM (aa aM (aa aM av))))) rfl) (au (aA (qx (sV T) T.e_behind_in_text hr aN (aa (qv 0) (aa (qv 1) av))))) aE)
   (aj (aT (iD lL (qv 0) (cA (aa aM (aa aM (aa aM av)))) rfl) (au (aA (qx (wz T) T.e_behind_hex hr aN (aa (qv 0) (aa (qv 1) av))))) aE)
   (aj (aT (iD lL (qv 0) (ba rfl T.m_UNENDED T.r_UNENDED) rfl) (au (aA (qx (oM T) T.e_behind_in_brackets hr aN (aa (qv 0) (aa (qv 1) av))))) aE)
   (aj (aT (bw bp (qv 0) aM) (au (aA (cP (by exact(cb (qx (zC T) T.og hr aN (aa (qv 1) av)) (fun _=>rfl))) (aQ (aa aM av)) cI))) aE)
   (aj (aT (bw bp (qv 0) aM) (au (aA (cP (by exact(bw bp (qv 1) (ba rfl T.m_QUOTE T.r_QUOTE))) (aQ (aa aM av)) cI))) aE)
   (au (aA (qx (oA T) T.fF hr aN (aa (qv 1) av))))))))))),
  (aw (aU (eN (v8 ae)) (aB (hZ (ay (iA my my (aq dR ae ah) ae (aq dR ae ah))) (aS ax) cG)) aD)
    (aw (aU (ay (aq (pR hr.units) ae (cx (af aL (af aL (af aL (af aL (af aL ax)))))))) (aB (aR (af ae (af ae ax)))) aD)
    (aw (aU (ay (aq (pR hr.units) ae (cx (af aL (af aL (af aL (af aL ax))))))) (aB (aR (af ae (af ae ax)))) aD)
    (aw (aU (ay (aq (pR hr.units) ae (cx (af aL (af aL (af aL ax)))))) (aB (aR (af ae (af ae ax)))) aD)
    (aw (aU (ay (aq (pR hr.units) ae (yT fun S=>by unfold Rep;exact⟨_,_,rfl,T.q_UNENDED S,(.cons (by unfold Rep;rfl) (.cons (by unfold Rep;rfl) (.cons (by unfold Rep;rfl) (.cons (by unfold Rep;rfl) .nil))))⟩))) (aB (aR (af ae (af ae ax)))) aD)
    (aw (aU (ay (aq bj ae aL)) (aB (hZ (eN (aR (af ae ax))) (aS (af aL ax)) cG)) aD)
    (aw (aU (ay (aq bj ae aL)) (aB (hZ (ay (aq bj ae ah)) (aS (af aL ax)) cG)) aD)
    (aB (aR (af ae ax))))))))))⟩
theorem tK(T:Txt w K mg t):cp P w K mg base (CXE P w) 1 t.cD t.d_Walk_brackets jQ (spI K (cn t) cD):=
 vY T.F_Walk_brackets tZ fun _ _ _ _ _ _ hr=>⟨_,(au (aA (qo T.n_len (xr (M:=[]) (ι:=[]) (x:="item") ⟨rfl,rfl,rfl,rfl,rfl,rfl,rfl,rfl,rfl,rfl,rfl,by decide +kernel⟩ rfl (g9 (tS (qv 0))) (fun _ _ _ _=>(iD lL (qv 0) (ba rfl T.m_UNENDED T.r_UNENDED) rfl)) fun _ _ _ _=>(qv 0))))),
  (aB (gm tu (qV (by decide) (fX (xG aP (gJ T))) (ay (aq (pR hr.units) ae (yT fun S=>by unfold Rep;exact⟨_,_,rfl,T.q_UNENDED S,(.cons (by unfold Rep;rfl) (.cons (by unfold Rep;rfl) (.cons (by unfold Rep;rfl) (.cons (by unfold Rep;rfl) .nil))))⟩))) ae)))⟩
theorem uJ(T:Txt w K mg t):cp P w K mg base (CXE P w) 7 t.dY t.d_Walk_goes_on kA (spI K (cn t) dY):=
 vY T.F_Walk_goes_on kj fun _ _ _ _ _ _ hr=>⟨_,(aj (wm hU (cb (tS (qv 0)) (fun _=>rfl)) (aj (qz 2 kj.nd (Bn PySem.F.plainAttrs_list PySem.F.slot_list_pop PySem.F.type_list_pop FH (tS (qv 0))))
   (aj (qz 3 kj.nd (qx (CN T) T.rR hr aN (aa (qv 2) (aa (qv 1) av))))
   (aj (aT (bw yN (qv 3) cI) (aj (qex fM (tS (qv 0)) (ET (qv 3) (mi jf ai)))
   (au (aA (gy mq (wK (qv 0) T.c_Walk T.h_Walk_brackets ((tK T).mono (by decide)) hr T.b_Walk_brackets aN) (ba rfl T.m_MOST_BRACKETS T.r_MOST_BRACKETS) (jO _))))) aE)
   (au (aT (iD wZ (qv 2) (ba rfl T.m_LOOSE T.r_LOOSE) rfl) (au (aA vv)) aE))))))
   (au (aA vv))),
  (aw (va (gU (xG aP (gJ T))) (aw (nN (BV (xG aP (gJ T))))
    (aw (aV (aR (af ae (af ae ax))))
    (aw (aU (ay (aq yF ae cG)) (aw (fR (xG aP (gJ T)) (FA ae (lX jb ah)))
    (aB (aq my (y9 rfl rfl (Ij aP) mf) ah))) aD)
    (aU (ay (aq (zw hr.units) ae (yT fun S=>by unfold Rep;exact⟨_,_,rfl,T.q_LOOSE S,(.cons (by unfold Rep;rfl) (.cons (by unfold Rep;rfl) (.cons (by unfold Rep;rfl) (.cons (by unfold Rep;rfl) (.cons (by unfold Rep;rfl) .nil)))))⟩))) (aB vh) aD)))))
    (aB vh))⟩
theorem so(T:Txt w K mg t):cp P w K mg base (CXE P w) 8 t.eG t.d_Walk_take nV (spI K (cn t) eG):=
 vY T.F_Walk_take ox fun _ _ _ _ _ _ hr=>⟨_,(aj (mM hU rfl (Hn rfl T.n_enumerate (aa (qv 1) av)) (Kx rfl (y0 (i9 (i:=2) ox.nd rfl (by first|exact Or.inl rfl|exact Or.inr rfl)) (y0 (i9 (i:=3) ox.nd rfl (by first|exact Or.inl rfl|exact Or.inr rfl)) Hy))) (au (aT (FZ (cb (vA (qv 0) T.c_Walk T.h_Walk_goes_on ((uJ T).mono (by decide)) hr T.b_Walk_goes_on aN (aa (qv 3) av)) (fun _=>rfl))) (au (aA (qv 2))) aE)))
   (au (aA (qo T.n_len (qv 1))))),
  (aw (GS ae (HA (wt rfl rfl (oB aP) (fg (zh (W:=fun _ _ _ _=>False) ae) mf)) nc aD))
    (aB (gm tu ae)))⟩
theorem zJ(T:Txt w K mg t):cp P w K mg base (CXE P w) 1 t.iT t.d_shortest pM (spP K (cn t) iT):=
 fG T.n6.F An fun _ _ _ _ _ _ hr=>⟨_,(aj (aT (cb (ji pD rfl T.n_isinstance L2.E.boot_isinstance (aa (qv 0) (aa (sq (v:=.ty _) rfl T.n_tuple L2.E.boot_tuple rfl) av))) (fun _=>rfl)) (au (aA (cA (aa (qi dU (qv 0) ai) av)))) aE)
   (au (aA (Gi (ba rfl T.m_SHORTEST T.r_SHORTEST) (qv 0) (cA av))))),
  (aw (aU (eN (v8 ae)) (aB (cx (af (aq dR ae ah) ax))) aD)
    (aB (Ed T.q_SHORTEST ae (cx ax))))⟩
theorem xb(T:Txt w K mg t):cp P w K mg base (CXE P w) 9 t.j5 t.d_ending tO (spP K (cn t) j5):=
 fG T.m6.F mX fun _ _ _ _ _ _ hr=>⟨_,(aj (qz 1 mX.nd (zp T.k_Walk (m9 T) (hr.mono (by decide)) rfl T.m_Walk T.b_Walk___init__))
   (aj (qz 2 mX.nd (vA (qv 1) T.c_Walk T.h_Walk_take ((so T).mono (by decide)) hr T.b_Walk_take aN (aa (qv 0) av)))
   (aj (aT (bw kg (qv 2) (qo T.n_len (qv 0))) (au HI) aE)
   (aj (qz 3 mX.nd (aQ av))
   (aj (mM hU rfl (g9 (ET (tS (qv 1)) (mi jf ai))) (i9 (i:=4) mX.nd rfl (by first|exact Or.inl rfl|exact Or.inr rfl)) (au (qex AL (qv 3) (qx (zJ T) T.n6 hr aN (aa (qv 4) av)))))
   (au (aA (qv 3)))))))),
  (aw (om (CD rfl))
    (aw (nN (wt rfl rfl (oB aP) (fg (zh (W:=fun _ _ _ _=>False) ae) mf)))
    (aw (aU (ay (aq kf ae (gm tu ae))) Gw aD)
    (aw (om (lM (aS ax)))
    (aw (pY (FA (fX (xG aP (gJ T))) (lX jb ah)) (Bi aP (aR (af ae ax))))
    (qX (i:=3) nc))))))⟩
theorem yP(T:Txt w K mg t):cp P w K mg base (CXE P w) 1 t.gO t.d_law_whole ou (spP K (cn t) gO):=
 fG T.lW.F yb fun _ _ _ _ _ _ hr=>⟨_,(au (aA (Fb (ji pD rfl T.n_isinstance L2.E.boot_isinstance (aa (qv 0) (aa (sq (v:=.ty _) rfl T.n_int L2.E.boot_int rfl) av))) (Fx (Km (ji pD rfl T.n_isinstance L2.E.boot_isinstance (aa (qv 0) (aa (sq (v:=.ty _) rfl T.n_bool L2.E.boot_bool rfl) av)))))))),
  (aB (DN (v8 ae) (JJ (v8 ae))))⟩
theorem wF(T:Txt w K mg t):cp P w K mg base (CXE P w) 2 t.eV t.d_law_wholes mT (spP K (cn t) eV):=
 fG T.kO.F wG fun _ _ _ _ _ _ hr=>⟨_,(au (aA (Fb (ji pD rfl T.n_isinstance L2.E.boot_isinstance (aa (qv 0) (aa (sq (v:=.ty _) rfl T.n_list L2.E.boot_list rfl) av))) (Fx (ji wN rfl T.n_all L2.E.boot_all (aa (lP (M:=[]) (ι:=[]) (x:="_law_one") ⟨rfl,rfl,rfl,rfl,rfl,rfl,rfl,rfl,rfl,rfl,rfl,by decide +kernel⟩ rfl (g9 (qv 0)) fun _ _ _ _=>(qx (yP T) T.lW hr Bw (aa (qv 0) av))) av)))))),
  (aB (DN (v8 ae) (gm (Eb hr.hd) (sU (by decide) ae (aR (af ae ax))))))⟩
theorem tw(T:Txt w K mg t):cp P w K mg base (CXE P w) 1 t.cZ t.d_Walk_is_whole jE (spI K (cn t) cZ):=
 vY T.F_Walk_is_whole ub fun _ _ _ _ _ _ hr=>⟨_,(au (aA (ji wN rfl T.n_all L2.E.boot_all (aa (lP (M:=[]) (ι:=[]) (x:="item") ⟨rfl,rfl,rfl,rfl,rfl,rfl,rfl,rfl,rfl,rfl,rfl,by decide +kernel⟩ rfl (g9 (tS (qv 0))) fun _ _ _ _=>(gy lL (qv 0) (ba rfl T.m_LOOSE T.r_LOOSE) rfl)) av)))),
  (aB (gm (Eb hr.hd) (sU (by decide) (fX (xG aP (gJ T))) (aq (pR hr.units) ae (yT fun S=>by unfold Rep;exact⟨_,_,rfl,T.q_LOOSE S,(.cons (by unfold Rep;rfl) (.cons (by unfold Rep;rfl) (.cons (by unfold Rep;rfl) (.cons (by unfold Rep;rfl) (.cons (by unfold Rep;rfl) .nil)))))⟩)))))⟩
theorem FQ(T:Txt w K mg t):cp P w K mg base (CXE P w) 9 t.kM t.d_fault v3 (spP K (cn t) kM):=
 fG T.uV.F vp fun _ _ _ _ _ _ hr=>⟨_,(aj (qz 1 vp.nd (zp T.k_Walk (m9 T) (hr.mono (by decide)) rfl T.m_Walk T.b_Walk___init__))
   (aj (qz 2 vp.nd (vA (qv 1) T.c_Walk T.h_Walk_take ((so T).mono (by decide)) hr T.b_Walk_take aN (aa (qv 0) av)))
   (aj (aT (jz (i5 (bw bp (qv 2) (qo T.n_len (qv 0))) (i8 (cb (wK (qv 1) T.c_Walk T.h_Walk_is_whole ((tw T).mono (by decide)) hr T.b_Walk_is_whole aN) (fun _=>rfl))))) (au (aA cI)) aE)
   (au (aA (qv 2)))))),
  (aw (om (CD rfl))
    (aw (nN (wt rfl rfl (oB aP) (fg (zh (W:=fun _ _ _ _=>False) ae) mf)))
    (aw (aU (jj (ay (aq bj ae (gm tu ae))) (eN (y9 rfl rfl (Ij aP) mf))) (aB cG) aD)
    nc)))⟩
theorem Jx(T:Txt w K mg t):cp P w K mg base (CXE P w) 10 t.xu t.d_law AF (spP K (cn t) xu):=
 fG T.Fg.F ie fun _ _ _ _ _ _ hr=>⟨_,(aj (qz 1 ie.nd (qx (yO T) T.e_law_built hr aN (aa (qv 0) (aa (aF cf ai (aF bP (qx (jH T) T.dJ hr aN (aa (qv 0) (aa ai av))) ai)) av))))
   (aj (qz 2 ie.nd (qi dU (qv 1) ai))
   (aj (qz 3 ie.nd (aF bP (qx (jH T) T.dJ hr aN (aa (qv 0) (aa ai av))) (aF cf (qo T.n_len (qv 2)) ai)))
   (aj (qz 4 ie.nd (oV sf (qv 2) sG (r9 (qv 3))))
   (aj (qz 5 ie.nd (qx (xb T) T.m6 hr aN (aa (qv 4) av)))
   (aj (aT (jz (uu (FZ (cb (qx (wF T) T.kO hr aN (aa (qv 5) av)) (fun _=>rfl))) (uu (bw EY (qv 4) (oV sf (qv 2) sG (r9 (qv 3)))) (rH (bw yN (qx (FQ T) T.uV hr aN (aa (aF eD (oV sf (qv 2) sG (r9 (qv 3))) (qv 5)) av)) cI))))) (au (aA vv)) aE)
   (aj (aT (bw EY (qx (xb T) T.m6 hr aN (aa (qv 2) av)) (aQ av)) (au (aA vv)) aE)
   (aj (qz 6 ie.nd ai)
   (aj (qz 7 ie.nd ai)
   (aj (mM hU rfl (g9 (qi dU (qv 1) ai)) (i9 (i:=8) ie.nd rfl (by first|exact Or.inl rfl|exact Or.inr rfl)) (au (aT (ja kg kg (qi dU (qv 8) ai) (qv 3) (qi dU (qv 8) ai)) (au (aT (iD lL (qi dU (qv 8) ai) (cA (aa aM (aa aM av))) rfl) (au (qz 6 ie.nd (aF cf (qv 6) ai))) (au (qz 7 ie.nd (aF cf (qv 7) ai))))) aE)))
   (aj (aT (jz (uu (bw wW (qv 7) ai) (rH (bw bp (qv 6) ai)))) (au (aA vv)) aE)
   (aj (qz 9 ie.nd (qi bU (xr (M:=[]) (ι:=[]) (x:="_law_byte") ⟨rfl,rfl,rfl,rfl,rfl,rfl,rfl,rfl,rfl,rfl,rfl,by decide +kernel⟩ rfl (g9 (oV sf (qv 2) sG (r9 (qv 3)))) (fun _ _ _ _=>(iD wZ (qv 0) (cA (aa ai (aa ai (aa ai (aa ai av))))) rfl)) fun _ _ _ _=>(qv 0)) (mi jf ai)))
   (aj (C3 (i:=10) ie.nd rfl (by first|exact Or.inl rfl|exact Or.inr rfl) (M:=["_law_at"]) (ι:=[3]) (x:="_law_node") ⟨rfl,rfl,rfl,rfl,rfl,rfl,rfl,rfl,rfl,rfl,rfl,by decide +kernel⟩ rfl (g9 (qi dU (qv 1) ai)) (fun _ _ _ _=>(ja kg kg (qi dU (qv 1) ai) (qv 0) (qi dU (qv 1) ai))) fun _ _ _ _=>(cP (by exact(bw bp (qi dU (qv 1) ai) aM)) ai ai))
   (aj (yH (Bn PySem.F.plainAttrs_list PySem.F.slot_list_reverse PySem.F.type_list_reverse AO (qv 10)))
   (aj (qz 11 ie.nd cI)
   (aj (mM hU rfl (g9 (qi dU (qv 1) ai)) (i9 (i:=8) ie.nd rfl (by first|exact Or.inl rfl|exact Or.inr rfl)) (au (aT (jz (i5 (iD lL (qi dU (qv 8) ai) (cA (aa aM (aa aM av))) rfl) (i5 (bw mq (qi dU (qv 8) ai) (qv 3)) (i8 (jz (uu (bw sX (qv 11) cI) (rH (bw wW (qi dU (qv 8) ai) (qi dU (qv 11) ai))))))))) (au (qz 11 ie.nd (qv 8))) aE)))
   (aj (aT (jz (i5 (bw bp (qv 9) ai) (i8 (bw bp (qi dU (qv 11) ai) aM)))) (au (aA (gy xN (qv 5) (aF eD (aQ (aa ai (aa ai av))) (qv 10)) (jO _)))) aE)
   (aj (aT (jz (i5 (bw bp (qv 9) ai) (i8 (bw bp (qi bU (qv 10) ai) ai)))) (au (aA (gy xN (qv 5) (aF eD (aQ (aa ai (aa ai (aa ai (aa ai av))))) (qv 10)) (jO _)))) aE)
   (aj (aT (jz (uu (bw bp (qv 9) ai) (rH (bw bp (qv 9) ai)))) (au (aA (gy xN (qv 5) (aF eD (aQ (aa ai av)) (qv 10)) (jO _)))) aE)
   (au (aA (gy xN (qv 5) (qv 10) (jO _))))))))))))))))))))))),
  (aw (aV (aR (af ae (af (aq cj ah (aq bO (aR (af ae (af ah ax))) ah)) ax))))
    (aw (aV (aq dR ae ah))
    (aw (aV (aq bO (aR (af ae (af ah ax))) (aq cj (gm tu ae) ah)))
    (aw (aV (wy ae sy (rZ ae)))
    (aw (kZ (i:=4) (aV (aR (af ae ax))))
    (aw (kZ (i:=5) (aU (uj (Kt (eN (aR (af ae ax)))) (uj (ay (aq (Ep hr.units) ae (wy ae sy (rZ ae)))) (ay (aq yF (aR (af (aq fN (wy ae sy (rZ ae)) ae) ax)) cG)))) (aB vh) aD))
    (aw (aU (ay (aq (Ep hr.units) (aR (af ae ax)) (aS ax))) (aB vh) aD)
    (aw (aV ah)
    (aw (aV ah)
    (aw (pY (aq dR ae ah) (aU (ay (iA kf kf (aq dR ae ah) ae (aq dR ae ah))) (aU (ay (aq (pR hr.units) (aq dR ae ah) (cx (af aL (af aL ax))))) (aV (aq cj ae ah)) (aV (aq cj ae ah))) aD))
    (aw (aU (uj (ay (aq xv ae ah)) (ay (aq bj ae ah))) (aB vh) aD)
    (aw (aV (aq pf (qV (by decide) (wy ae sy (rZ ae)) (ay (aq (zw hr.units) ae (cx (af ah (af ah (af ah (af ah ax))))))) ae) (lX jb ah)))
    (aw (aV (qV (by decide) (aq dR ae ah) (ay (iA kf kf (aq dR ae ah) ae (aq dR ae ah))) (hZ (ay (aq bj (aq dR ae ah) aL)) ah ah)))
    (aw Be
    (aw (aV cG)
    (aw (pY (aq dR ae ah) (aU (jj (ay (aq (pR hr.units) (aq dR ae ah) (cx (af aL (af aL ax))))) (jj (ay (aq my (aq dR ae ah) ae)) (uj (ay (aq tG ae cG)) (ay (aq xv (aq dR ae ah) (aq dR ae ah)))))) (aV ae) aD))
    (aw (aU (jj (ay (aq bj ae ah)) (ay (aq bj (aq dR ae ah) aL))) (aB (aq (yh hr.units) ae (aq fN (aS (af ah (af ah ax))) ae))) aD)
    (aw (aU (jj (ay (aq bj ae ah)) (ay (aq bj (aq pf ae ah) ah))) (aB (aq (yh hr.units) ae (aq fN (aS (af ah (af ah (af ah (af ah ax))))) ae))) aD)
    (aw (aU (uj (ay (aq bj ae ah)) (ay (aq bj ae ah))) (aB (aq (yh hr.units) ae (aq fN (aS (af ah ax)) ae))) aD)
    (aB (aq (yh hr.units) ae ae)))))))))))))))))))))⟩
end
open PySem.W in
theorem all_mk{l:PySem.W.OpenLaw}{w:World}{K:PySem.W.Frag}{h:Heap}{mg:Str->Option Value}{fa:Addr}(X:K.In h)(G:h.Ns mainGlobals mg)(hfa:mg "law" = some (.ref fa))
  (h0:Fd K "tails" xQ f0 d0)
  (h1:Fd K "second_of_three" je f1 d1)
  (h2:Fd K "second_of_four" jL f2 d2)
  (h3:Fd K "is_white" rf f3 d3)
  (h4:Fd K "is_figure" pJ f4 d4)
  (h5:Fd K "hex_worth" o1 f5 d5)
  (h6:Fd K "word_rest" o4 f6 d6)
  (h7:Fd K "short_escape" ly f7 d7)
  (h8:Fd K "behind" vL f8 d8)
  (h9:Fd K "behind_value" lH f9 d9)
  (h10:Fd K "behind_lead" mE f10 d10)
  (h11:Fd K "behind_in_number" iV f11 d11)
  (h12:Fd K "behind_in_text" jR f12 d12)
  (h13:Fd K "behind_character" iI f13 d13)
  (h14:Fd K "behind_backslash" iM f14 d14)
  (h15:Fd K "behind_code_d" kx f15 d15)
  (h16:Fd K "behind_hex" oe f16 d16)
  (h17:Fd K "behind_in_brackets" gH f17 d17)
  (h18:Fd K "behind_row_begin" iU f18 d18)
  (h19:Fd K "behind_fields_begin" gp f19 d19)
  (h20:Fd K "member_rest" mH f20 d20)
  (h21:Fd K "ending" u7 f21 d21)
  (h22:Fd K "shortest" rq f22 d22)
  (h23:Fd K "fault" x6 f23 d23)
  (h24:Fd K "_law_cell" rm f24 d24)
  (h25:Fd K "_law_mix" tU f25 d25)
  (h26:Fd K "_law_whole" o9 f26 d26)
  (h27:Fd K "_law_wholes" nr f27 d27)
  (h28:Fd K "_law_point" pG f28 d28)
  (h29:Fd K "_law_points" nY f29 d29)
  (h30:Fd K "_law_eight" pO f30 d30)
  (h31:Fd K "_law_hex" sZ f31 d31)
  (h32:Fd K "_law_sign" qY f32 d32)
  (h33:Fd K "_law_text" rp f33 d33)
  (h34:Fd K "_law_number" oi f34 d34)
  (h35:Fd K "_law_plain" pz f35 d35)
  (h36:Fd K "_law_white" pw f36 d36)
  (h37:Fd K "_law_plain_value" jd f37 d37)
  (h38:Fd K "_law_name" rL f38 d38)
  (h39:Fd K "_law_close" oS f39 d39)
  (h40:Fd K "_law_begin" pb f40 d40)
  (h41:Fd K "_law_built" o6 f41 d41)
  (a42:nsIn K mainGlobals "law" = some (some (.ref f42))) (l42:K.lookup f42=some ⟨oc42,od42,.func (fnOf "law" "law" (eS zy) (dF zy) (aC zy) .none kV42 dc42 pm42 an42 cd42 ct42),sl42⟩) (c42:codeIn K cd42 "law" = true) (k42:keepIn K (.ref f42)=true)
  (a43:findIn K (.ref C0) "__init__" = some (some (.ref f43))) (i43:isFn K (.ref f43)=true) (l43:K.lookup f43=some ⟨oc43,od43,.func (fnOf "__init__" "Walk.__init__" (eS eA) (dF eA) (aC eA) .none kV43 dc43 pm43 an43 cd43 ct43),sl43⟩) (c43:codeIn K cd43 "Walk.__init__" = true) (k43:keepIn K (.ref f43)=true)
  (a44:findIn K (.ref C0) "take" = some (some (.ref f44))) (i44:isFn K (.ref f44)=true) (l44:K.lookup f44=some ⟨oc44,od44,.func (fnOf "take" "Walk.take" (eS gP) (dF gP) (aC gP) .none kV44 dc44 pm44 an44 cd44 ct44),sl44⟩) (c44:codeIn K cd44 "Walk.take" = true) (k44:keepIn K (.ref f44)=true)
  (a45:findIn K (.ref C0) "goes_on" = some (some (.ref f45))) (i45:isFn K (.ref f45)=true) (l45:K.lookup f45=some ⟨oc45,od45,.func (fnOf "goes_on" "Walk.goes_on" (eS eL) (dF eL) (aC eL) .none kV45 dc45 pm45 an45 cd45 ct45),sl45⟩) (c45:codeIn K cd45 "Walk.goes_on" = true) (k45:keepIn K (.ref f45)=true)
  (a46:findIn K (.ref C0) "brackets" = some (some (.ref f46))) (i46:isFn K (.ref f46)=true) (l46:K.lookup f46=some ⟨oc46,od46,.func (fnOf "brackets" "Walk.brackets" (eS eh) (dF eh) (aC eh) .none kV46 dc46 pm46 an46 cd46 ct46),sl46⟩) (c46:codeIn K cd46 "Walk.brackets" = true) (k46:keepIn K (.ref f46)=true)
  (a47:findIn K (.ref C0) "is_whole" = some (some (.ref f47))) (i47:isFn K (.ref f47)=true) (l47:K.lookup f47=some ⟨oc47,od47,.func (fnOf "is_whole" "Walk.is_whole" (eS ez) (dF ez) (aC ez) .none kV47 dc47 pm47 an47 cd47 ct47),sl47⟩) (c47:codeIn K cd47 "Walk.is_whole" = true) (k47:keepIn K (.ref f47)=true)
  (z0:nsIn K mainGlobals "isinstance" = some none)
  (z1:nsIn K mainGlobals "tuple" = some none)
  (z2:nsIn K mainGlobals "len" = some none)
  (z3:nsIn K mainGlobals "int" = some none)
  (z4:nsIn K mainGlobals "bool" = some none)
  (z5:nsIn K mainGlobals "list" = some none)
  (z6:nsIn K mainGlobals "all" = some none)
  (z7:nsIn K mainGlobals "range" = some none)
  (z8:nsIn K mainGlobals "str" = some none)
  (z9:nsIn K mainGlobals "ord" = some none)
  (z10:nsIn K mainGlobals "enumerate" = some none)
  (ca0:nsIn K mainGlobals "Walk" = some (some (.ref C0))) (pg0:plainGet K C0 Str.empty=true) (hd0:hasDictIn K C0=true) (po0:plainOver K C0=true) (sa0:findIn K (.ref C0) "__setattr__" = some (some (.builtin "object.__setattr__"))) (mk0:makesIn K C0=true) (kc0:keepIn K (.ref C0)=true)
  (na0_0:findIn K (.ref C0) "coming" = some none)
  (va0:nsIn K mainGlobals "TAIL" = some (some (.ref v0))) (vl0:K.lookup v0=some ⟨.type "tuple",vd0,.seq #[.int 128 t0_0,.int 191 t0_1] vn0,vs0⟩)
  (va1:nsIn K mainGlobals "BLANK" = some (some (.int 32 t1)))
  (va2:nsIn K mainGlobals "QUOTE" = some (some (.int 34 t2)))
  (va3:nsIn K mainGlobals "PLUS" = some (some (.int 43 t3)))
  (va4:nsIn K mainGlobals "COMMA" = some (some (.int 44 t4)))
  (va5:nsIn K mainGlobals "MINUS" = some (some (.int 45 t5)))
  (va6:nsIn K mainGlobals "POINT" = some (some (.int 46 t6)))
  (va7:nsIn K mainGlobals "NOUGHT" = some (some (.int 48 t7)))
  (va8:nsIn K mainGlobals "NINE" = some (some (.int 57 t8)))
  (va9:nsIn K mainGlobals "COLON" = some (some (.int 58 t9)))
  (va10:nsIn K mainGlobals "BIG_E" = some (some (.int 69 t10)))
  (va11:nsIn K mainGlobals "ROW_BEGIN" = some (some (.int 91 t11)))
  (va12:nsIn K mainGlobals "BACKSLASH" = some (some (.int 92 t12)))
  (va13:nsIn K mainGlobals "ROW_END" = some (some (.int 93 t13)))
  (va14:nsIn K mainGlobals "SMALL_E" = some (some (.int 101 t14)))
  (va15:nsIn K mainGlobals "SMALL_U" = some (some (.int 117 t15)))
  (va16:nsIn K mainGlobals "FIELDS_BEGIN" = some (some (.int 123 t16)))
  (va17:nsIn K mainGlobals "FIELDS_END" = some (some (.int 125 t17)))
  (va18:nsIn K mainGlobals "WHITE" = some (some (.ref v18))) (vl18:K.lookup v18=some ⟨.type "tuple",vd18,.seq #[.int 9 t18_0,.int 10 t18_1,.int 13 t18_2,.int 32 t18_3] vn18,vs18⟩)
  (va19:nsIn K mainGlobals "WORDS" = some (some (.ref v19))) (vl19:K.lookup v19=some ⟨.type "dict",none,.dict #[⟨110,.int 110 tk19_0,.ref w19_0⟩,⟨116,.int 116 tk19_1,.ref w19_1⟩,⟨102,.int 102 tk19_2,.ref w19_2⟩] ep19,#[]⟩)
  (wl19_0:K.lookup w19_0=some ⟨.type "tuple",wd19_0,.seq #[.int 117 tx19_0_0,.int 108 tx19_0_1,.int 108 tx19_0_2] wn19_0,ws19_0⟩)
  (wl19_1:K.lookup w19_1=some ⟨.type "tuple",wd19_1,.seq #[.int 114 tx19_1_0,.int 117 tx19_1_1,.int 101 tx19_1_2] wn19_1,ws19_1⟩)
  (wl19_2:K.lookup w19_2=some ⟨.type "tuple",wd19_2,.seq #[.int 97 tx19_2_0,.int 108 tx19_2_1,.int 115 tx19_2_2,.int 101 tx19_2_3] wn19_2,ws19_2⟩)
  (vm19:(v19==sysModules)=false)
  (va20:nsIn K mainGlobals "SHORT_ESCAPES" = some (some (.ref v20))) (vl20:K.lookup v20=some ⟨.type "dict",none,.dict #[⟨34,.int 34 tk20_0,(.int 34 tv20_0)⟩,⟨92,.int 92 tk20_1,(.int 92 tv20_1)⟩,⟨47,.int 47 tk20_2,(.int 47 tv20_2)⟩,⟨98,.int 98 tk20_3,(.int 8 tv20_3)⟩,⟨102,.int 102 tk20_4,(.int 12 tv20_4)⟩,⟨110,.int 110 tk20_5,(.int 10 tv20_5)⟩,⟨114,.int 114 tk20_6,(.int 13 tv20_6)⟩,⟨116,.int 116 tk20_7,(.int 9 tv20_7)⟩] ep20,#[]⟩)
  (vm20:(v20==sysModules)=false)
  (va21:nsIn K mainGlobals "MOST_BRACKETS" = some (some (.int 64 t21)))
  (va22:nsIn K mainGlobals "LOOSE" = some (some (.ref v22))) (vl22:K.lookup v22=some ⟨.type "tuple",vd22,.seq #[.str "white" t22_0,.str "figures" t22_1,.str "fraction" t22_2,.str "exponent" t22_3,.str "sign" t22_4] vn22,vs22⟩)
  (va23:nsIn K mainGlobals "UNENDED" = some (some (.ref v23))) (vl23:K.lookup v23=some ⟨.type "tuple",vd23,.seq #[.str "row" t23_0,.str "more row" t23_1,.str "fields" t23_2,.str "more fields" t23_3] vn23,vs23⟩)
  (va24:nsIn K mainGlobals "SHORTEST" = some (some (.ref v24))) (vl24:K.lookup v24=some ⟨.type "dict",none,.dict #[⟨hashStr w "value",.str "value" tk24_0,.ref w24_0⟩,⟨hashStr w "lead",.str "lead" tk24_1,.ref w24_1⟩,⟨hashStr w "text",.str "text" tk24_2,.ref w24_2⟩,⟨hashStr w "name",.str "name" tk24_3,.ref w24_3⟩,⟨hashStr w "escape",.str "escape" tk24_4,.ref w24_4⟩,⟨hashStr w "code",.str "code" tk24_5,.ref w24_5⟩,⟨hashStr w "code d",.str "code d" tk24_6,.ref w24_6⟩,⟨hashStr w "hex",.str "hex" tk24_7,.ref w24_7⟩,⟨hashStr w "hex d",.str "hex d" tk24_8,.ref w24_8⟩,⟨hashStr w "hex c to f",.str "hex c to f" tk24_9,.ref w24_9⟩,⟨hashStr w "row",.str "row" tk24_10,.ref w24_10⟩,⟨hashStr w "more row",.str "more row" tk24_11,.ref w24_11⟩,⟨hashStr w "fields",.str "fields" tk24_12,.ref w24_12⟩,⟨hashStr w "more fields",.str "more fields" tk24_13,.ref w24_13⟩] ep24,#[]⟩)
  (wl24_0:K.lookup w24_0=some ⟨.type "tuple",wd24_0,.seq #[.int 48 tx24_0_0] wn24_0,ws24_0⟩)
  (wl24_1:K.lookup w24_1=some ⟨.type "tuple",wd24_1,.seq #[.int 48 tx24_1_0] wn24_1,ws24_1⟩)
  (wl24_2:K.lookup w24_2=some ⟨.type "tuple",wd24_2,.seq #[.int 34 tx24_2_0] wn24_2,ws24_2⟩)
  (wl24_3:K.lookup w24_3=some ⟨.type "tuple",wd24_3,.seq #[.int 34 tx24_3_0,.int 34 tx24_3_1] wn24_3,ws24_3⟩)
  (wl24_4:K.lookup w24_4=some ⟨.type "tuple",wd24_4,.seq #[.int 34 tx24_4_0] wn24_4,ws24_4⟩)
  (wl24_5:K.lookup w24_5=some ⟨.type "tuple",wd24_5,.seq #[.int 48 tx24_5_0,.int 48 tx24_5_1,.int 48 tx24_5_2,.int 48 tx24_5_3] wn24_5,ws24_5⟩)
  (wl24_6:K.lookup w24_6=some ⟨.type "tuple",wd24_6,.seq #[.int 48 tx24_6_0,.int 48 tx24_6_1,.int 48 tx24_6_2] wn24_6,ws24_6⟩)
  (wl24_7:K.lookup w24_7=some ⟨.type "tuple",wd24_7,.seq #[.int 48 tx24_7_0] wn24_7,ws24_7⟩)
  (wl24_8:K.lookup w24_8=some ⟨.type "tuple",wd24_8,.seq #[.int 68 tx24_8_0] wn24_8,ws24_8⟩)
  (wl24_9:K.lookup w24_9=some ⟨.type "tuple",wd24_9,.seq #[.int 67 tx24_9_0] wn24_9,ws24_9⟩)
  (wl24_10:K.lookup w24_10=some ⟨.type "tuple",wd24_10,.seq #[.int 93 tx24_10_0] wn24_10,ws24_10⟩)
  (wl24_11:K.lookup w24_11=some ⟨.type "tuple",wd24_11,.seq #[.int 93 tx24_11_0] wn24_11,ws24_11⟩)
  (wl24_12:K.lookup w24_12=some ⟨.type "tuple",wd24_12,.seq #[.int 125 tx24_12_0] wn24_12,ws24_12⟩)
  (wl24_13:K.lookup w24_13=some ⟨.type "tuple",wd24_13,.seq #[.int 125 tx24_13_0] wn24_13,ws24_13⟩)
  (vm24:(v24==sysModules)=false):
  ∃ fd:FuncData,(∀(s:Shared) (v:Value),BindsTo s fd ⟨[v],[]⟩ [("_law_script",v)]) /\ ∀ base:Heap,K.In base->base.Ns mainGlobals mg->cp l.prog w K mg base (CXE l.prog w) 10 fa fd ["_law_script"] (xT K):=by
 have e:=hfa.symm.trans (PySem.W.mg_of X G a42);cases e
 have T:Txt w K mg ⟨f0,d0,f1,d1,f2,d2,f3,d3,f4,d4,f5,d5,f6,d6,f7,d7,f8,d8,f9,d9,f10,d10,f11,d11,f12,d12,f13,d13,f14,d14,f15,d15,f16,d16,f17,d17,f18,d18,f19,d19,f20,d20,f21,d21,f22,d22,f23,d23,f24,d24,f25,d25,f26,d26,f27,d27,f28,d28,f29,d29,f30,d30,f31,d31,f32,d32,f33,d33,f34,d34,f35,d35,f36,d36,f37,d37,f38,d38,f39,d39,f40,d40,f41,d41,f42,_,f43,_,f44,_,f45,_,f46,_,f47,_,C0,v0,_,_,_,_,_,_,_,_,_,_,_,_,_,_,_,_,_,v18,v19,v20,_,v22,v23,v24⟩:=⟨h0.e1 X G,
  h1.e1 X G,
  h2.e1 X G,
  h3.e1 X G,
  h4.e1 X G,
  h5.e1 X G,
  h6.e1 X G,
  h7.e1 X G,
  h8.e2 X G,
  h9.e1 X G,
  h10.e1 X G,
  h11.e2 X G,
  h12.e2 X G,
  h13.e1 X G,
  h14.e1 X G,
  h15.e1 X G,
  h16.e2 X G,
  h17.e2 X G,
  h18.e1 X G,
  h19.e1 X G,
  h20.e0 X G,
  h21.e1 X G,
  h22.e1 X G,
  h23.e1 X G,
  h24.e2 X G,
  h25.e2 X G,
  h26.e1 X G,
  h27.e1 X G,
  h28.e1 X G,
  h29.e2 X G,
  h30.e1 X G,
  h31.e2 X G,
  h32.e2 X G,
  h33.e2 X G,
  h34.e1 X G,
  h35.e2 X G,
  h36.e1 X G,
  h37.e2 X G,
  h38.e2 X G,
  h39.e3 X G,
  h40.e5 X G,
  h41.e2 X G,
  (cY a42 l42 c42 k42).e1 X G,
  lG (st:=eA) l43 c43 k43,(lG (st:=eA) l43 c43 k43).binds (ps:=["self"]) fun _ _ _ _ _ _ us hl=>match us,hl with|[_],_=>rfl,
  lG (st:=gP) l44 c44 k44,⟨a44,i44,k44⟩,(lG (st:=gP) l44 c44 k44).binds (ps:=["self","row"]) fun _ _ _ _ _ _ us hl=>match us,hl with|[_,_],_=>rfl,
  lG (st:=eL) l45 c45 k45,⟨a45,i45,k45⟩,(lG (st:=eL) l45 c45 k45).binds (ps:=["self","byte"]) fun _ _ _ _ _ _ us hl=>match us,hl with|[_,_],_=>rfl,
  lG (st:=eh) l46 c46 k46,⟨a46,i46,k46⟩,(lG (st:=eh) l46 c46 k46).binds (ps:=["self"]) fun _ _ _ _ _ _ us hl=>match us,hl with|[_],_=>rfl,
  lG (st:=ez) l47 c47 k47,⟨a47,i47,k47⟩,(lG (st:=ez) l47 c47 k47).binds (ps:=["self"]) fun _ _ _ _ _ _ us hl=>match us,hl with|[_],_=>rfl,
  PySem.W.mg_none_of X G z0,
  PySem.W.mg_none_of X G z1,
  PySem.W.mg_none_of X G z2,
  PySem.W.mg_none_of X G z3,
  PySem.W.mg_none_of X G z4,
  PySem.W.mg_none_of X G z5,
  PySem.W.mg_none_of X G z6,
  PySem.W.mg_none_of X G z7,
  PySem.W.mg_none_of X G z8,
  PySem.W.mg_none_of X G z9,
  PySem.W.mg_none_of X G z10,
  PySem.W.mg_of X G ca0,⟨pg0,hd0,po0,sa0⟩,⟨mk0,a43,i43,kc0⟩,
  na0_0,
  PySem.W.mg_of X G va0,rfl,fun H=>.inr ⟨_,_,_,vl0,rfl,rfl,(by show 2<=sizeLine;decide),.cons ⟨_,rfl⟩ (.cons ⟨_,rfl⟩ (.nil))⟩,
  PySem.W.mg_of X G va1,⟨t1,rfl⟩,
  PySem.W.mg_of X G va2,⟨t2,rfl⟩,
  PySem.W.mg_of X G va3,⟨t3,rfl⟩,
  PySem.W.mg_of X G va4,⟨t4,rfl⟩,
  PySem.W.mg_of X G va5,⟨t5,rfl⟩,
  PySem.W.mg_of X G va6,⟨t6,rfl⟩,
  PySem.W.mg_of X G va7,⟨t7,rfl⟩,
  PySem.W.mg_of X G va8,⟨t8,rfl⟩,
  PySem.W.mg_of X G va9,⟨t9,rfl⟩,
  PySem.W.mg_of X G va10,⟨t10,rfl⟩,
  PySem.W.mg_of X G va11,⟨t11,rfl⟩,
  PySem.W.mg_of X G va12,⟨t12,rfl⟩,
  PySem.W.mg_of X G va13,⟨t13,rfl⟩,
  PySem.W.mg_of X G va14,⟨t14,rfl⟩,
  PySem.W.mg_of X G va15,⟨t15,rfl⟩,
  PySem.W.mg_of X G va16,⟨t16,rfl⟩,
  PySem.W.mg_of X G va17,⟨t17,rfl⟩,
  PySem.W.mg_of X G va18,rfl,fun H=>.inr ⟨_,_,_,vl18,rfl,rfl,(by show 4<=sizeLine;decide),.cons ⟨_,rfl⟩ (.cons ⟨_,rfl⟩ (.cons ⟨_,rfl⟩ (.cons ⟨_,rfl⟩ (.nil))))⟩,
  PySem.W.mg_of X G va19,rfl,⟨[(110,.ref w19_0),(116,.ref w19_1),(102,.ref w19_2)],⟨vm19,by simp,_,_,vl19,.cons ⟨rfl,⟨_,rfl⟩,rfl⟩ (.cons ⟨rfl,⟨_,rfl⟩,rfl⟩ (.cons ⟨rfl,⟨_,rfl⟩,rfl⟩ (.nil)))⟩,.cons ⟨rfl,fun _=>by unfold Rep;exact⟨_,[.int 117,.int 108,.int 108],rfl,.inr ⟨_,_,_,wl19_0,rfl,rfl,(by show 3<=sizeLine;decide),.cons ⟨_,rfl⟩ (.cons ⟨_,rfl⟩ (.cons ⟨_,rfl⟩ (.nil)))⟩,bu.ints (ns:=[117,108,108])⟩⟩ (.cons ⟨rfl,fun _=>by unfold Rep;exact⟨_,[.int 114,.int 117,.int 101],rfl,.inr ⟨_,_,_,wl19_1,rfl,rfl,(by show 3<=sizeLine;decide),.cons ⟨_,rfl⟩ (.cons ⟨_,rfl⟩ (.cons ⟨_,rfl⟩ (.nil)))⟩,bu.ints (ns:=[114,117,101])⟩⟩ (.cons ⟨rfl,fun _=>by unfold Rep;exact⟨_,[.int 97,.int 108,.int 115,.int 101],rfl,.inr ⟨_,_,_,wl19_2,rfl,rfl,(by show 4<=sizeLine;decide),.cons ⟨_,rfl⟩ (.cons ⟨_,rfl⟩ (.cons ⟨_,rfl⟩ (.cons ⟨_,rfl⟩ (.nil))))⟩,bu.ints (ns:=[97,108,115,101])⟩⟩ (.nil)))⟩,
  PySem.W.mg_of X G va20,rfl,⟨[(34,.int 34),(92,.int 92),(47,.int 47),(98,.int 8),(102,.int 12),(110,.int 10),(114,.int 13),(116,.int 9)],⟨vm20,by simp,_,_,vl20,.cons ⟨rfl,⟨_,rfl⟩,⟨_,rfl⟩⟩ (.cons ⟨rfl,⟨_,rfl⟩,⟨_,rfl⟩⟩ (.cons ⟨rfl,⟨_,rfl⟩,⟨_,rfl⟩⟩ (.cons ⟨rfl,⟨_,rfl⟩,⟨_,rfl⟩⟩ (.cons ⟨rfl,⟨_,rfl⟩,⟨_,rfl⟩⟩ (.cons ⟨rfl,⟨_,rfl⟩,⟨_,rfl⟩⟩ (.cons ⟨rfl,⟨_,rfl⟩,⟨_,rfl⟩⟩ (.cons ⟨rfl,⟨_,rfl⟩,⟨_,rfl⟩⟩ (.nil))))))))⟩,.cons ⟨rfl,fun _=>by unfold Rep;rfl⟩ (.cons ⟨rfl,fun _=>by unfold Rep;rfl⟩ (.cons ⟨rfl,fun _=>by unfold Rep;rfl⟩ (.cons ⟨rfl,fun _=>by unfold Rep;rfl⟩ (.cons ⟨rfl,fun _=>by unfold Rep;rfl⟩ (.cons ⟨rfl,fun _=>by unfold Rep;rfl⟩ (.cons ⟨rfl,fun _=>by unfold Rep;rfl⟩ (.cons ⟨rfl,fun _=>by unfold Rep;rfl⟩ (.nil))))))))⟩,
  PySem.W.mg_of X G va21,⟨t21,rfl⟩,
  PySem.W.mg_of X G va22,rfl,fun H=>.inr ⟨_,_,_,vl22,rfl,rfl,(by show 5<=sizeLine;decide),.cons ⟨_,rfl⟩ (.cons ⟨_,rfl⟩ (.cons ⟨_,rfl⟩ (.cons ⟨_,rfl⟩ (.cons ⟨_,rfl⟩ (.nil)))))⟩,
  PySem.W.mg_of X G va23,rfl,fun H=>.inr ⟨_,_,_,vl23,rfl,rfl,(by show 4<=sizeLine;decide),.cons ⟨_,rfl⟩ (.cons ⟨_,rfl⟩ (.cons ⟨_,rfl⟩ (.cons ⟨_,rfl⟩ (.nil))))⟩,
  PySem.W.mg_of X G va24,rfl,⟨[("value",.ref w24_0),("lead",.ref w24_1),("text",.ref w24_2),("name",.ref w24_3),("escape",.ref w24_4),("code",.ref w24_5),("code d",.ref w24_6),("hex",.ref w24_7),("hex d",.ref w24_8),("hex c to f",.ref w24_9),("row",.ref w24_10),("more row",.ref w24_11),("fields",.ref w24_12),("more fields",.ref w24_13)],⟨vm24,by(simp only[List.map];decide),_,_,vl24,.cons ⟨rfl,⟨_,rfl⟩,rfl⟩ (.cons ⟨rfl,⟨_,rfl⟩,rfl⟩ (.cons ⟨rfl,⟨_,rfl⟩,rfl⟩ (.cons ⟨rfl,⟨_,rfl⟩,rfl⟩ (.cons ⟨rfl,⟨_,rfl⟩,rfl⟩ (.cons ⟨rfl,⟨_,rfl⟩,rfl⟩ (.cons ⟨rfl,⟨_,rfl⟩,rfl⟩ (.cons ⟨rfl,⟨_,rfl⟩,rfl⟩ (.cons ⟨rfl,⟨_,rfl⟩,rfl⟩ (.cons ⟨rfl,⟨_,rfl⟩,rfl⟩ (.cons ⟨rfl,⟨_,rfl⟩,rfl⟩ (.cons ⟨rfl,⟨_,rfl⟩,rfl⟩ (.cons ⟨rfl,⟨_,rfl⟩,rfl⟩ (.cons ⟨rfl,⟨_,rfl⟩,rfl⟩ (.nil))))))))))))))⟩,.cons ⟨rfl,fun _=>by unfold Rep;exact⟨_,[.int 48],rfl,.inr ⟨_,_,_,wl24_0,rfl,rfl,(by show 1<=sizeLine;decide),.cons ⟨_,rfl⟩ (.nil)⟩,bu.ints (ns:=[48])⟩⟩ (.cons ⟨rfl,fun _=>by unfold Rep;exact⟨_,[.int 48],rfl,.inr ⟨_,_,_,wl24_1,rfl,rfl,(by show 1<=sizeLine;decide),.cons ⟨_,rfl⟩ (.nil)⟩,bu.ints (ns:=[48])⟩⟩ (.cons ⟨rfl,fun _=>by unfold Rep;exact⟨_,[.int 34],rfl,.inr ⟨_,_,_,wl24_2,rfl,rfl,(by show 1<=sizeLine;decide),.cons ⟨_,rfl⟩ (.nil)⟩,bu.ints (ns:=[34])⟩⟩ (.cons ⟨rfl,fun _=>by unfold Rep;exact⟨_,[.int 34,.int 34],rfl,.inr ⟨_,_,_,wl24_3,rfl,rfl,(by show 2<=sizeLine;decide),.cons ⟨_,rfl⟩ (.cons ⟨_,rfl⟩ (.nil))⟩,bu.ints (ns:=[34,34])⟩⟩ (.cons ⟨rfl,fun _=>by unfold Rep;exact⟨_,[.int 34],rfl,.inr ⟨_,_,_,wl24_4,rfl,rfl,(by show 1<=sizeLine;decide),.cons ⟨_,rfl⟩ (.nil)⟩,bu.ints (ns:=[34])⟩⟩ (.cons ⟨rfl,fun _=>by unfold Rep;exact⟨_,[.int 48,.int 48,.int 48,.int 48],rfl,.inr ⟨_,_,_,wl24_5,rfl,rfl,(by show 4<=sizeLine;decide),.cons ⟨_,rfl⟩ (.cons ⟨_,rfl⟩ (.cons ⟨_,rfl⟩ (.cons ⟨_,rfl⟩ (.nil))))⟩,bu.ints (ns:=[48,48,48,48])⟩⟩ (.cons ⟨rfl,fun _=>by unfold Rep;exact⟨_,[.int 48,.int 48,.int 48],rfl,.inr ⟨_,_,_,wl24_6,rfl,rfl,(by show 3<=sizeLine;decide),.cons ⟨_,rfl⟩ (.cons ⟨_,rfl⟩ (.cons ⟨_,rfl⟩ (.nil)))⟩,bu.ints (ns:=[48,48,48])⟩⟩ (.cons ⟨rfl,fun _=>by unfold Rep;exact⟨_,[.int 48],rfl,.inr ⟨_,_,_,wl24_7,rfl,rfl,(by show 1<=sizeLine;decide),.cons ⟨_,rfl⟩ (.nil)⟩,bu.ints (ns:=[48])⟩⟩ (.cons ⟨rfl,fun _=>by unfold Rep;exact⟨_,[.int 68],rfl,.inr ⟨_,_,_,wl24_8,rfl,rfl,(by show 1<=sizeLine;decide),.cons ⟨_,rfl⟩ (.nil)⟩,bu.ints (ns:=[68])⟩⟩ (.cons ⟨rfl,fun _=>by unfold Rep;exact⟨_,[.int 67],rfl,.inr ⟨_,_,_,wl24_9,rfl,rfl,(by show 1<=sizeLine;decide),.cons ⟨_,rfl⟩ (.nil)⟩,bu.ints (ns:=[67])⟩⟩ (.cons ⟨rfl,fun _=>by unfold Rep;exact⟨_,[.int 93],rfl,.inr ⟨_,_,_,wl24_10,rfl,rfl,(by show 1<=sizeLine;decide),.cons ⟨_,rfl⟩ (.nil)⟩,bu.ints (ns:=[93])⟩⟩ (.cons ⟨rfl,fun _=>by unfold Rep;exact⟨_,[.int 93],rfl,.inr ⟨_,_,_,wl24_11,rfl,rfl,(by show 1<=sizeLine;decide),.cons ⟨_,rfl⟩ (.nil)⟩,bu.ints (ns:=[93])⟩⟩ (.cons ⟨rfl,fun _=>by unfold Rep;exact⟨_,[.int 125],rfl,.inr ⟨_,_,_,wl24_12,rfl,rfl,(by show 1<=sizeLine;decide),.cons ⟨_,rfl⟩ (.nil)⟩,bu.ints (ns:=[125])⟩⟩ (.cons ⟨rfl,fun _=>by unfold Rep;exact⟨_,[.int 125],rfl,.inr ⟨_,_,_,wl24_13,rfl,rfl,(by show 1<=sizeLine;decide),.cons ⟨_,rfl⟩ (.nil)⟩,bu.ints (ns:=[125])⟩⟩ (.nil))))))))))))))⟩⟩
 exact⟨_,fun s v=>.of_eq rfl,fun base _ _=>(Jx T).imp (HH fun ns h=>Fg ns h)⟩
theorem walk{l:PySem.W.OpenLaw}{q:Program}{loose:List Str}{XP:(Str->Option Value)->Heap->Prop}{YP:World->Heap->Prop}{d:DefRec}{K:Params->PySem.W.Frag}(hn:l.most=some 63)(hdf:d.params.defaults=[])
  (hY:∀(w:World) (h:Heap),YP w h->(K w.params).In h)
  (F:∀(w:World) (mg:Str->Option Value) (fa:Addr) (h:Heap),(K w.params).In h->h.Ns mainGlobals mg->mg d.name=some (.ref fa) ->
    ∃ fd:FuncData,(∀(s:Shared) (u:Value),BindsTo s fd ⟨[u],[]⟩ [("_law_script",u)]) /\ ∀ base:Heap,(K w.params).In base->base.Ns mainGlobals mg->cp l.prog w (K w.params) mg base (CXE l.prog w) 10 fa fd ["_law_script"] (xT (K w.params))):
  PySem.W.WalkO q loose XP YP l.row.toRowW d [] (fun f vs=>PySem.call f vs):=
 L2.Ia (n:=63) (k:=10) (x:="_law_script") (CX:=fun w=>CXE l.prog w) (sp:=fun w=>xT (K w.params)) hn (by decide) hdf ⟨rfl,by decide,by decide⟩ hY F (fun _ _ a ns hl _ hS=>⟨a,ns,rfl,hS,hl,fun _=>rfl⟩) fun _ _ _ _ _ z=>let ⟨_,_,_,_,_,_,_,_,_,_,f⟩:=z;f
end L2.plainglass_k09_endings
open PySem PySem.W PyProof.Rows
namespace PySem.W.Fast
def tw8671569774302242023:=0
def tw14353214821407301050:=0
def tw13163772250187576187:=0
def tw2250507599568070101:=0
def tw8458046579689347538:=0
def tw13943289944158391893:=0
def tw9752215797306349335:=0
def tw17472147483177579462:=0
def tw16531498152699292380:=0
def tw12251059722121284932:=0
def tw2812639294275305818:=0
def tw1796745786144850349:=0
def tw18138291065402969352:=0
def tw7016533487481742552:=0
def tw2606028936304389719:=0
def tw971751485916450437:=0
def tw87944032135942231:=0
def tw4235383021912798909:=0
def tw17497954338400243456:=0
def tw11238948873682658312:=0
def tw7544156370600739431:=0
def tw12462906038315524119:=0
def tw10353753177114783229:=0
def tw5527830434359729098:=0
def tw3033888155937040884:=0
def tw6728490598313246419:=0
def tw16161035647068720450:=0
def tw6312435547951390554:=0
def tw14378637716316239776:=0
def tw15394584634455630914:=0
def tw3008466051812625948:=0
def tw2103487800090906758:=0
def tw13139821815729378811:=0
def tw7870810430457508766:=0
def tw7437197967605185511:=0
def tw4536492543435427265:=0
def tw10476245832154751095:=0
def tw6944433633962284537:=0
def tw12524694639283833019:=0
def tw9457868874484818709:=0
def tw9906818151756215566:=0
def tw4604715694182166948:=0
def tw8342007030707973459:=0
def tw961982191633725737:=0
def tw5443788613729141747:=0
def tw3762533631350733276:=0
def tw16918264994809383522:=0
def tw4910403977237574331:=0
def tw14347289361983187570:=0
def tw3404051008645950567:=0
def tw6535593389206242193:=0
def tw2299089853610206044:=0
def tw13870036963002775139:=0
def tw726734947841450133:=0
def tw10424029415732720444:=0
def tw12370057706751277095:=0
def tw2458356026318900578:=0
def tw10796176522409355627:=0
def tw14190447725587958084:=0
def tw17952746951641258478:=0
def tw5022807253401219931:=0
def tw5794185488154389543:=0
def tw15275019090975897010:=0
def tw3756086326251175197:=0
def tw14672861873419875806:=0
def tw17382823302688392466:=0
def tw9443783953883977056:=0
def tw3232805035764411240:=0
def tw9962976574012413787:=0
def tw15070496516927603835:=0
def tw12609393169107267238:=0
def tw2490774374669361723:=0
def tw7214275366407039647:=0
def tw7870967733939821238:=0
def tw15616943046942765344:=0
def tw7131224001774323149:=0
def tw1850558576218746681:=0
def tw7333554217778584152:=0
def tw9493486588787113206:=0
def tw15279012263850212717:=0
def tw5464906584344308529:=0
def tw11084347742712930034:=0
def tw14264262139281288417:=0
def tw10278223661402496783:=0
def tw6855190543168788297:=0
def tw12181324189129882878:=0
def tw7596261869902335661:=0
def tw13320526028715752675:=0
def tw16307363584337664487:=0
def tw4103774042453634626:=0
def tw6784008473983610183:=0
def tw12760098103563240035:=0
def tw1168679478889389639:=0
def tw7344431859025672987:=0
def tw3124245973346416704:=0
def tw14739219335972424444:=0
def tw9136907330499491922:=0
def tw13880603946709228036:=0
def tw6024329509994500619:=0
def tw1392875344244436106:=0
def tw4149445387825310266:=0
def tw14560817742742715833:=0
def tw1337054577818420998:=0
def tw10129894345942009322:=0
def tw18270553849519164566:=0
def tw16917468142671179267:=0
def tw1648359823199974381:=0
def tw6075311266361496110:=0
def tw12015005240399069305:=0
def tw14619268596146737533:=0
def tw15118076205996948827:=0
def tw260453801953919636:=0
def tw5263384583748893393:=0
def tw2314207718898796911:=0
def tw2085605914242783094:=0
end PySem.W.Fast
set_option maxRecDepth 100000 in
set_option maxHeartbeats 0 in
theorem PySem.Challenge.cw_plainglass_k09_endings_holds : PySem.Challenge.rw_plainglass_k09_endings.Holds := by
 w_on;o_law;k_head;(case hw=>w_witness2)
 k_fill
 refine L2.plainglass_k09_endings.walk (l:=PySem.Challenge.rw_plainglass_k09_endings) rfl rfl (fun w h Y=>PySem.W.kIn_of Y) ?F
 case F=>
  intro w mg fa h KX G hmg
  refine' L2.plainglass_k09_endings.all_mk KX G hmg (L2.E.cY ?a0 ?l0 ?c0 ?k0) (L2.E.cY ?a1 ?l1 ?c1 ?k1) (L2.E.cY ?a2 ?l2 ?c2 ?k2) (L2.E.cY ?a3 ?l3 ?c3 ?k3) (L2.E.cY ?a4 ?l4 ?c4 ?k4) (L2.E.cY ?a5 ?l5 ?c5 ?k5) (L2.E.cY ?a6 ?l6 ?c6 ?k6) (L2.E.cY ?a7 ?l7 ?c7 ?k7) (L2.E.cY ?a8 ?l8 ?c8 ?k8) (L2.E.cY ?a9 ?l9 ?c9 ?k9) (L2.E.cY ?a10 ?l10 ?c10 ?k10) (L2.E.cY ?a11 ?l11 ?c11 ?k11) (L2.E.cY ?a12 ?l12 ?c12 ?k12) (L2.E.cY ?a13 ?l13 ?c13 ?k13) (L2.E.cY ?a14 ?l14 ?c14 ?k14) (L2.E.cY ?a15 ?l15 ?c15 ?k15) (L2.E.cY ?a16 ?l16 ?c16 ?k16) (L2.E.cY ?a17 ?l17 ?c17 ?k17) (L2.E.cY ?a18 ?l18 ?c18 ?k18) (L2.E.cY ?a19 ?l19 ?c19 ?k19) (L2.E.cY ?a20 ?l20 ?c20 ?k20) (L2.E.cY ?a21 ?l21 ?c21 ?k21) (L2.E.cY ?a22 ?l22 ?c22 ?k22) (L2.E.cY ?a23 ?l23 ?c23 ?k23) (L2.E.cY ?a24 ?l24 ?c24 ?k24) (L2.E.cY ?a25 ?l25 ?c25 ?k25) (L2.E.cY ?a26 ?l26 ?c26 ?k26) (L2.E.cY ?a27 ?l27 ?c27 ?k27) (L2.E.cY ?a28 ?l28 ?c28 ?k28) (L2.E.cY ?a29 ?l29 ?c29 ?k29) (L2.E.cY ?a30 ?l30 ?c30 ?k30) (L2.E.cY ?a31 ?l31 ?c31 ?k31) (L2.E.cY ?a32 ?l32 ?c32 ?k32) (L2.E.cY ?a33 ?l33 ?c33 ?k33) (L2.E.cY ?a34 ?l34 ?c34 ?k34) (L2.E.cY ?a35 ?l35 ?c35 ?k35) (L2.E.cY ?a36 ?l36 ?c36 ?k36) (L2.E.cY ?a37 ?l37 ?c37 ?k37) (L2.E.cY ?a38 ?l38 ?c38 ?k38) (L2.E.cY ?a39 ?l39 ?c39 ?k39) (L2.E.cY ?a40 ?l40 ?c40 ?k40) (L2.E.cY ?a41 ?l41 ?c41 ?k41) ?a42 ?l42 ?c42 ?k42 ?a43 ?i43 ?l43 ?c43 ?k43 ?a44 ?i44 ?l44 ?c44 ?k44 ?a45 ?i45 ?l45 ?c45 ?k45 ?a46 ?i46 ?l46 ?c46 ?k46 ?a47 ?i47 ?l47 ?c47 ?k47 ?z0 ?z1 ?z2 ?z3 ?z4 ?z5 ?z6 ?z7 ?z8 ?z9 ?z10 ?ca0 ?pg0 ?hd0 ?po0 ?sa0 ?mk0 ?kc0 ?na0_0 ?va0 ?vl0 ?va1 ?va2 ?va3 ?va4 ?va5 ?va6 ?va7 ?va8 ?va9 ?va10 ?va11 ?va12 ?va13 ?va14 ?va15 ?va16 ?va17 ?va18 ?vl18 ?va19 ?vl19 ?wl19_0 ?wl19_1 ?wl19_2 ?vm19 ?va20 ?vl20 ?vm20 ?va21 ?va22 ?vl22 ?va23 ?vl23 ?va24 ?vl24 ?wl24_0 ?wl24_1 ?wl24_2 ?wl24_3 ?wl24_4 ?wl24_5 ?wl24_6 ?wl24_7 ?wl24_8 ?wl24_9 ?wl24_10 ?wl24_11 ?wl24_12 ?wl24_13 ?vm24
  (case ca0|a0|l0|c0|k0|a1|l1|c1|k1|a2|l2|c2|k2|a3|l3|c3|k3|a4|l4|c4|k4|a5|l5|c5|k5|a6|l6|c6|k6|a7|l7|c7|k7|a8|l8|c8|k8|a9|l9|c9|k9|a10|l10|c10|k10|a11|l11|c11|k11|a12|l12|c12|k12|a13|l13|c13|k13|a14|l14|c14|k14|a15|l15|c15|k15|a16|l16|c16|k16|a17|l17|c17|k17|a18|l18|c18|k18|a19|l19|c19|k19|a20|l20|c20|k20|a21|l21|c21|k21|a22|l22|c22|k22|a23|l23|c23|k23|a24|l24|c24|k24|a25|l25|c25|k25|a26|l26|c26|k26|a27|l27|c27|k27|a28|l28|c28|k28|a29|l29|c29|k29|a30|l30|c30|k30|a31|l31|c31|k31|a32|l32|c32|k32|a33|l33|c33|k33|a34|l34|c34|k34|a35|l35|c35|k35|a36|l36|c36|k36|a37|l37|c37|k37|a38|l38|c38|k38|a39|l39|c39|k39|a40|l40|c40|k40|a41|l41|c41|k41|a42|l42|c42|k42|a43|i43|l43|c43|k43|a44|i44|l44|c44|k44|a45|i45|l45|c45|k45|a46|i46|l46|c46|k46|a47|i47|l47|c47|k47|z0|z1|z2|z3|z4|z5|z6|z7|z8|z9|z10|pg0|hd0|po0|sa0|mk0|kc0|na0_0|va0|vl0|va1|va2|va3|va4|va5|va6|va7|va8|va9|va10|va11|va12|va13|va14|va15|va16|va17|va18|vl18|va19|vl19|wl19_0|wl19_1|wl19_2=>k_is)
  (case vm19=>first|decide|rfl)
  (case va20|vl20=>k_is)
  (case vm20=>first|decide|rfl)
  (case va21|va22|vl22|va23|vl23|va24|vl24|wl24_0|wl24_1|wl24_2|wl24_3|wl24_4|wl24_5|wl24_6|wl24_7|wl24_8|wl24_9|wl24_10|wl24_11|wl24_12|wl24_13=>k_is)
  (case vm24=>first|decide|rfl)
